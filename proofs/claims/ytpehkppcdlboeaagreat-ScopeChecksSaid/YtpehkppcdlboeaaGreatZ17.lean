/- Parts of the proof: PiB, PiC, ScI, ScM, ScA, ScB, ScC. Conditions: each theorem's own. -/
import Derived.Test.YtpehkppcdlboeaaGreatZ16
namespace Go.Proofs.YtpehkppcdlboeaaGreat
set_option linter.unusedVariables false
set_option linter.unusedSimpArgs false
set_option maxRecDepth 100000
set_option maxHeartbeats 40000000
section
open Go.RowKit Go.Sort
theorem tyRight(A:Option Addr) (n c:Nat) (k e l:Int) (w:World) (hn:n≤9223372036854775807):
 Calls Tryz.prog 49 #[.slice A n c,tyV k e l] w fun r w'=>r=.returned (.bool (rightB n k e l))∧Below w.heap.size w w':=by
 unfold tyV;have HB:=Hd ((Below.refl w.heap.size w).alloc (Nat.le_refl _) (.cells #[.int .i64 k,.int .i64 e,.int .i64 l] 46))
 by_cases h1:l<0
 · go_enter Tryz.func49,Tryz.ntmps49
   go_wp2_with fail
   go_ret
   exact⟨ret_bool (right_len (.inl h1)).symm,HB.out⟩
 · by_cases h2:8<l
   · go_enter Tryz.func49,Tryz.ntmps49
     go_wp2_with fail
     go_ret
     exact⟨ret_bool (right_len (.inr h2)).symm,HB.out⟩
   · have hl:0≤l∧l≤8:=by omega
     have HL:=Hd hl;clear hl
     by_cases k1:k=1
     · have HE:=Hd (right_base (n:=n) (e:=e) HL.out (.inl k1));subst k1
       go_enter Tryz.func49,Tryz.ntmps49
       go_wp2_with fail
       go_ret
       exact⟨ret_bool (by rw [HE.out,Bool.eq_iff_iff];simp),HB.out⟩
     · by_cases k2:k=2
       · have HE:=Hd (right_base (n:=n) (e:=e) HL.out (.inr k2));subst k2
         go_enter Tryz.func49,Tryz.ntmps49
         go_wp2_with fail
         go_ret
         exact⟨ret_bool (by rw [HE.out,Bool.eq_iff_iff];simp),HB.out⟩
       · by_cases k3:k=3
         · have HE:=Hd (right_enum (n:=n) (e:=e) HL.out k3);subst k3
           by_cases e0:0≤e
           all_goals
            go_enter Tryz.func49,Tryz.ntmps49
            go_wp2_with fail
            go_ret
            exact⟨ret_bool (by rw [HE.out,Bool.eq_iff_iff];simp;omega),HB.out⟩
         · have HE:=Hd (right_kind (n:=n) (e:=e) (l:=l) (by omega) k3);have b1:(k==1)=false:=by simpa using k1
           have b2:(k==2)=false:=by simpa using k2
           have b3:(k==3)=false:=by simpa using k3
           go_enter Tryz.func49,Tryz.ntmps49
           go_wp2_with fail
           go_ret
           exact⟨ret_bool HE.out.symm,HB.out⟩
theorem low_empty{s:ByteArray}(h:noB s=true):lowB s.data.toList=false:=by
 have h:s.data.toList=[]:=by simpa [noB] using h
 rw [h];rfl
def timedB(d:Dc):Bool:=if noB d.on then noB d.ct else lowB d.on.data.toList && armT d.ct
theorem decl_timed(n:Nat) (d:Dc):declB n rightB d=(lowB d.nm.data.toList && rightB n d.k d.e d.l && timedB d):=by
 unfold declB timedB
 cases h:noB d.on with
 | true=>rw [low_empty h];simp
 | false=>simp
theorem pgArm(s:ByteArray) (w:World) (hs:s.size≤9223372036854775807):
 Calls Tryz.prog 78 #[.string s] w fun e w'=>e=.returned (.bool (armT s))∧Below w.heap.size w w':=by
 have HH:=Hd (idHigh s w hs);have HE:=Hd (show armT s=(highB s.data.toList || (s.toList==[116,114,117,101]) || (s.toList==[102,97,108,115,101])) by rw [Lib.toList_data];rfl);generalize armT s=out at *;generalize highB s.data.toList=b at *
 cases b with
 | true=>
  go_enter Tryz.func78,Tryz.ntmps78
  go_wp2_with fail
  refine HH.out.mono ?_;rintro e w2 ⟨rfl,hb2⟩;have HB2:=Hd hb2;clear hb2
  go_wp2_with fail
  go_ret
  exact⟨ret_bool (by rw [HE.out];rfl),HB2.out⟩
 | false=>
  cases h1:(s.toList==[116,114,117,101]) with
  | true=>
   rw [h1] at HE
   go_enter Tryz.func78,Tryz.ntmps78
   go_wp2_with fail
   refine HH.out.mono ?_;rintro e w2 ⟨rfl,hb2⟩;have HB2:=Hd hb2;clear hb2
   go_wp2_with fail
   go_ret
   exact⟨ret_bool (by rw [HE.out];rfl),HB2.out⟩
  | false=>
   rw [h1] at HE
   cases h2:(s.toList==[102,97,108,115,101]) with
   | true=>
    rw [h2] at HE
    go_enter Tryz.func78,Tryz.ntmps78
    go_wp2_with fail
    refine HH.out.mono ?_;rintro e w2 ⟨rfl,hb2⟩;have HB2:=Hd hb2;clear hb2
    go_wp2_with fail
    go_ret
    exact⟨ret_bool (by rw [HE.out];rfl),HB2.out⟩
   | false=>
    rw [h2] at HE
    go_enter Tryz.func78,Tryz.ntmps78
    go_wp2_with fail
    refine HH.out.mono ?_;rintro e w2 ⟨rfl,hb2⟩;have HB2:=Hd hb2;clear hb2
    go_wp2_with fail
    go_ret
    exact⟨ret_bool (by rw [HE.out];rfl),HB2.out⟩
theorem pgTimed(d:Dc) (w:World) (ho:OkD d):
 Calls Tryz.prog 50 #[.agg (dcA d)] w fun e w'=>e=.returned (.bool (timedB d))∧Below w.heap.size w w':=by
 have HF:=Hd fun w1 hw=>dc_facts w d w1 hw;have HL:=Hd fun w1=>idLow d.on w1 (by have:=ho.2.1;unfold maxLen at this;omega);have HA:=Hd fun w1=>pgArm d.ct w1 (by have:=ho.2.2;unfold maxLen at this;omega);have HE:=Hd (show timedB d=if(d.on.toList==[]) then(d.ct.toList==[]) else lowB d.on.data.toList && armT d.ct by rw [Lib.toList_data,Lib.toList_data];rfl);clear ho;unfold dcA at HF ⊢;generalize timedB d=out at *;generalize lowB d.on.data.toList=lb at *;generalize armT d.ct=ab at *
 go_enter Tryz.func50,Tryz.ntmps50
 go_upto_region 1 with(fail)
 generalize hw1:w.alloc _=w1;obtain⟨hb1,hg,hcell⟩:=HF.out w1 hw1;have HB1:=Hd hb1;have HC:=Hd hcell;have q2:=hcell w1 (Below.refl _ _) 4;have q3:=hcell w1 (Below.refl _ _) 5;simp only [Ya,Yb,Yc] at q2 q3;clear hw1 hcell hb1 HF
 cases h1:(d.on.toList==[]) with
 | true=>
  rw [h1,if_pos rfl] at HE;generalize hc:(d.ct.toList==[])=cb at *
  go_wp2_with fail
  go_ret
  exact⟨ret_bool HE.out.symm,HB1.out⟩
 | false=>
  rw [h1,if_neg (by simp)] at HE
  cases lb with
  | false=>
   go_wp2_with fail
   refine(HL.out w1).mono ?_;rintro e w2 ⟨rfl,hb2⟩;have HB2:=Hd (HB1.out.trans (hb2.mono HB1.out.size));clear hb2 q2 q3
   go_wp2_with fail
   go_ret
   exact⟨ret_bool HE.out.symm,HB2.out⟩
  | true=>
   go_wp2_with fail
   refine(HL.out w1).mono ?_;rintro e w2 ⟨rfl,hb2⟩;have HB2:=Hd (HB1.out.trans (hb2.mono HB1.out.size));have p3:=HC.out w2 hb2 5;simp only [Ya,Yb,Yc] at p3;clear hb2 q2 q3
   go_wp2_with fail
   refine(HA.out w2).mono ?_;rintro e w3 ⟨rfl,hb3⟩;have HB3:=Hd (HB2.out.trans (hb3.mono HB2.out.size));clear hb3 p3
   go_wp2_with fail
   go_ret
   exact⟨ret_bool HE.out.symm,HB3.out⟩
end
section
open Go.RowKit Go.Sort
theorem pgVar(d:Dc) (be:Nat) (E:Option Addr) (ne ec:Nat) (w:World) (ho:OkD d) (hn:ne≤9223372036854775807) (he:w.cell? ⟨be,0,none⟩=some (.slice E ne ec)):
 Calls Tryz.prog 47 #[.agg (dcA d),.pointer (some ⟨be,0,none⟩)] w fun e w'=>e=.returned (.bool (!declB ne rightB d))∧Below w.heap.size w w':=by
 have HF:=Hd fun w1 hw=>dc_facts w d w1 hw;have HL:=Hd fun w1=>idLow d.nm w1 (by have:=ho.1;unfold maxLen at this;omega);have HR:=Hd fun w1=>tyRight E ne ec d.k d.e d.l w1 hn;have HT:=Hd fun w1=>pgTimed d w1 ho;have HE:=Hd (decl_timed ne d);have HBE:=Hd (World.block_lt_of_cell? _ _ he);have HCE:=Hd he;clear ho he;unfold dcA at HF HT ⊢;unfold tyV at HR;generalize declB ne rightB d=out at *;generalize lowB d.nm.data.toList=lb at *;generalize rightB ne d.k d.e d.l=rb at *;generalize timedB d=tb at *
 go_enter Tryz.func47,Tryz.ntmps47
 go_upto_region 1 with(fail)
 generalize hw1:w.alloc _=w1;obtain⟨hb1,hg,hcell⟩:=HF.out w1 hw1;have HB1:=Hd hb1;have HC:=Hd hcell;have q0:=hcell w1 (Below.refl _ _) 0;simp only [Ya,Yb,Yc] at q0;clear hw1 hcell hb1 HF
 cases lb with
 | false=>
  go_wp2_with fail
  refine(HL.out w1).mono ?_;rintro e w2 ⟨rfl,hb2⟩;have HB2:=Hd (HB1.out.trans (hb2.mono HB1.out.size));clear hb2 q0
  go_wp2_with fail
  go_ret
  exact⟨ret_bool (by rw [HE.out];rfl),HB2.out⟩
 | true=>
  go_wp2_with fail
  refine(HL.out w1).mono ?_;rintro e w2 ⟨rfl,hb2⟩;have HB2:=Hd (HB1.out.trans (hb2.mono HB1.out.size));obtain⟨-,p1,p2,p3,-,-⟩:=Sx (HC.out w2 hb2);simp only [Ya,Yb,Yc] at p1 p2 p3;have pe:=(HB2.out.cell (p:=⟨be,0,none⟩) HBE.out).trans HCE.out;have HW2:=Hd hb2;clear hb2 q0
  cases rb with
  | false=>
   go_wp2_with fail
   refine(HR.out w2).mono ?_;rintro e w3 ⟨rfl,hb3⟩;have HB3:=Hd (HB2.out.trans (hb3.mono HB2.out.size));clear hb3 p1 p2 p3 pe
   go_wp2_with fail
   go_ret
   exact⟨ret_bool (by rw [HE.out];rfl),HB3.out⟩
  | true=>
   go_wp2_with fail
   refine(HR.out w2).mono ?_;rintro e w3 ⟨rfl,hb3⟩;have HB3:=Hd (HB2.out.trans (hb3.mono HB2.out.size));have hw3:=HW2.out.trans (hb3.mono HW2.out.size);obtain⟨s0,s1,s2,s3,s4,s5⟩:=Sx (HC.out w3 hw3);simp only [Ya,Yb,Yc] at s0 s1 s2 s3 s4 s5;clear hb3 p1 p2 p3 pe hw3
   go_wp2_with fail
   refine(HT.out w3).mono ?_;rintro e w4 ⟨rfl,hb4⟩;have HB4:=Hd (HB3.out.trans (hb4.mono HB3.out.size));clear hb4 s0 s1 s2 s3 s4 s5;generalize hnt:(!tb)=nt at *
   cases nt with
   | true=>
    go_wp2_with fail
    go_ret
    exact⟨ret_bool (by rw [HE.out];simpa using hnt.symm),HB4.out⟩
   | false=>
    go_wp2_with fail
    go_ret
    exact⟨ret_bool (by rw [HE.out];simpa using hnt.symm),HB4.out⟩
theorem pgPort(d:Dc) (bv be:Nat) (E:Option Addr) (ne ec:Nat) (w:World) (ho:OkD d) (hn:ne≤9223372036854775807) (he:w.cell? ⟨be,0,none⟩=some (.slice E ne ec))
 (hv:w.cell? ⟨bv,0,none⟩=some (.func (.func 47) #[] #[.pointer (some ⟨be,0,none⟩)])):
 Calls Tryz.prog 51 #[.agg (dcA d),.pointer (some ⟨bv,0,none⟩)] w fun e w'=>e=.returned (.bool (!(declB ne rightB d && noB d.on)))∧Below w.heap.size w w':=by
 have HF:=Hd fun w1 hw=>dc_facts w d w1 hw;have HV:=Hd fun w1 (hb:Below w.heap.size w w1)=>pgVar d be E ne ec w1 ho hn ((hb.cell (p:=⟨be,0,none⟩) (World.block_lt_of_cell? _ _ he)).trans he);have HE:=Hd (show noB d.on=(d.on.toList==[]) by rw [Lib.toList_data];rfl);have HBV:=Hd (World.block_lt_of_cell? _ _ hv);have HCV:=Hd hv;clear ho he hv;unfold dcA at HF HV ⊢;rw [HE.out];clear HE;generalize declB ne rightB d=db at *
 go_enter Tryz.func51,Tryz.ntmps51
 go_upto_region 1 with(fail)
 generalize hw1:w.alloc _=w1;obtain⟨hb1,hg,hcell⟩:=HF.out w1 hw1;have HB1:=Hd hb1;have HC:=Hd hcell;have HV1:=Hd (HV.out w1 hb1);have qv:=(hb1.cell (p:=⟨bv,0,none⟩) HBV.out).trans HCV.out;obtain⟨q0,q1,q2,q3,q4,q5⟩:=Sx (hcell w1 (Below.refl _ _));simp only [Ya,Yb,Yc] at q0 q1 q2 q3 q4 q5;clear hw1 hcell hb1 HF HV
 cases db with
 | false=>
  go_wp2_with fail
  refine HV1.out.mono ?_;rintro e w2 ⟨rfl,hb2⟩;have HB2:=Hd (HB1.out.trans (hb2.mono HB1.out.size));clear hb2 q0 q1 q2 q3 q4 q5 qv
  go_wp2_with fail
  go_ret
  exact⟨rfl,HB2.out⟩
 | true=>
  go_wp2_with fail
  refine HV1.out.mono ?_;rintro e w2 ⟨rfl,hb2⟩;have HB2:=Hd (HB1.out.trans (hb2.mono HB1.out.size));have p4:=HC.out w2 hb2 4;simp only [Ya,Yb,Yc] at p4;clear hb2 q0 q1 q2 q3 q4 q5 qv;have hne:(d.on.toList != [])=!(d.on.toList==[]):=rfl
  cases h1:(d.on.toList==[]) with
  | true=>
   rw [h1] at hne
   go_wp2_with fail
   go_ret
   exact⟨ret_bool (by rw [h1];rfl),HB2.out⟩
  | false=>
   rw [h1] at hne
   go_wp2_with fail
   go_ret
   exact⟨ret_bool (by rw [h1];rfl),HB2.out⟩
end
section
open Go.RowKit Go.Sort
def PredDcF(g:Nat) (x0:Value) (f:Dc→Bool) (l:List Dc) (w:World):Prop:=
 ∀ x,x∈l→∀ (W:World),Below w.heap.size w W →
  Calls Tryz.prog g #[x0,.agg (dcA x)] W fun e w'=>e=.returned (.bool (f x))∧Below W.heap.size W w'
theorem slIndexDcF(g:Nat) (x0:Value) (eg:∀ args w,(callFunc g args).run Tryz.prog w=.ok (.enter g args) w) (f:Dc→Bool) (A:Option Addr) (n c:Nat) (l:List Dc) (w:World) (h:RdD w A n l) (hf:PredDcF g x0 f l w):
 Calls Tryz.prog 59 #[.slice A n c,.func (.func g) #[x0] #[]] w fun e w'=>e=.returned (.int .i64 (findI f l 0))∧Below w.heap.size w w':=by
 have HR:=Hd h;have HP:=Hd hf;have hln:=RdS.len h;have hmx:=RdS.max h;have HHIT:=Hd (fun(k:Nat) hk hn hy=>show findI f l 0=(k:Int) by have:=findI_hit (l:=l) (f:=f) (k:=k) (i:=0) hk hn hy;rwa [Nat.zero_add] at this);have HNO:=Hd (fun hn=>show findI f l 0=-1 from findI_none (l:=l) (f:=f) (i:=0) hn);generalize findI f l 0=out at *;have HLN:=Hd hln;clear h hf hln;unfold PredDcF at HP
 go_enter Tryz.func59,Tryz.ntmps59
 go_wp2_with fail
 go_loopw [5,8] (fun _ i wr=>∃ k:Nat,k≤n∧i=.int .i64 k∧(∀ j,j<k→f (l[j]?.getD default)=false)∧Below w.heap.size w wr) (fun _ i _=>n-(intOf i).toNat)
 case atStart=>exact⟨0,Nat.zero_le _,rfl,fun j hj=>absurd hj (by omega),Below.refl _ _⟩
 case round=>
  obtain⟨k,hk,rfl,hto,hnx⟩:=hrel;have HT:=Hd hto;have HNX:=Hd hnx;clear hto
  by_cases hlt:k<n
  · obtain⟨b,off,rfl,hb,d0,d1,d2,d3,d4,d5⟩:=dc_at (HR.out.below hnx) hlt;have HCL:=Hd (HP.out _ (getD_memA (by rw [HLN.out];exact hlt))  wr hnx);have HH:=Hd (HHIT.out k (by rw [HLN.out];exact hlt) HT.out);have HS:=Hd fun(hf:f (l[k]?.getD default)=false)=>to_next (P:=fun j=>f (l[j]?.getD default)=false) HT.out hf;clear hnx;unfold dcA at HCL;generalize l[k]?.getD default=x at d0 d1 d2 d3 d4 d5 HCL HH HS
    cases hq:f x with
    | true=>
     have HO:=Hd (HH.out hq);rw [hq] at HCL
     go_wp2_with (go_at_fn g;refine HCL.out.mono ?_;rintro e w3 ⟨rfl,hb3⟩)
     go_ret
     exact⟨ret_int HO.out.symm,HNX.out.trans (hb3.mono HNX.out.size)⟩
    | false=>
     have HO:=Hd (HS.out hq);rw [hq] at HCL
     go_wp2_with (go_at_fn g;refine HCL.out.mono ?_;rintro e w3 ⟨rfl,hb3⟩;have HB3:=Hd (HNX.out.trans (hb3.mono HNX.out.size));clear hb3)
     go_roundw
     case rel=>exact⟨k+1,by omega,by go_num,HO.out,HB3.out⟩
     case measure=>simp [intOf];omega
  · have hkn:k=n:=by omega
    have HN:=Hd (HNO.out fun j hj=>HT.out j (by rw [HLN.out] at hj;omega))
    go_wp2_with fail
    go_ret
    exact⟨ret_int HN.out.symm,HNX.out⟩
theorem slHasDcF(g:Nat) (x0:Value) (eg:∀ args w,(callFunc g args).run Tryz.prog w=.ok (.enter g args) w) (f:Dc→Bool) (A:Option Addr) (n c:Nat) (l:List Dc) (w:World) (h:RdD w A n l) (hf:PredDcF g x0 f l w):
 Calls Tryz.prog 29 #[.slice A n c,.func (.func g) #[x0] #[]] w fun e w'=>e=.returned (.bool (l.any f))∧Below w.heap.size w w':=by
 have HI:=Hd (slIndexDcF g x0 eg f A n c l w h hf);have HA:=Hd (findI_any f l);clear h hf
 go_enter Tryz.func29,Tryz.ntmps29
 go_wp2_with fail
 refine HI.out.mono ?_;rintro e w2 ⟨rfl,hb2⟩;have HB2:=Hd hb2;clear hb2
 cases ha:l.any f with
 | true=>
  rw [ha] at HA;have d0:decide ((0:Int)≤findI f l 0)=true:=HA.out
  go_wp2_with fail
  go_ret
  exact⟨ret_bool ha.symm,HB2.out⟩
 | false=>
  rw [ha] at HA;have d0:decide ((0:Int)≤findI f l 0)=false:=HA.out
  go_wp2_with fail
  go_ret
  exact⟨ret_bool ha.symm,HB2.out⟩
def PredTF(g:Nat) (x0:Value) (f:ByteArray→Bool) (l:List ByteArray) (w:World):Prop:=
 ∀ x,x∈l→∀ (W:World),Below w.heap.size w W →
  Calls Tryz.prog g #[x0,.string x] W fun e w'=>e=.returned (.bool (f x))∧Below W.heap.size W w'
theorem slIndexTF(g:Nat) (x0:Value) (eg:∀ args w,(callFunc g args).run Tryz.prog w=.ok (.enter g args) w) (f:ByteArray→Bool) (A:Option Addr) (n c:Nat) (l:List ByteArray) (w:World) (h:RdT w A n l) (hf:PredTF g x0 f l w):
 Calls Tryz.prog 96 #[.slice A n c,.func (.func g) #[x0] #[]] w fun e w'=>e=.returned (.int .i64 (findI f l 0))∧Below w.heap.size w w':=by
 have HR:=Hd h;have HP:=Hd hf;have hln:=RdT.len h;have hmx:=RdT.max h;have HHIT:=Hd (fun(k:Nat) hk hn hy=>show findI f l 0=(k:Int) by have:=findI_hitS (l:=l) (f:=f) (k:=k) (i:=0) hk hn hy;rwa [Nat.zero_add] at this);have HNO:=Hd (fun hn=>show findI f l 0=-1 from findI_noneS (l:=l) (f:=f) (i:=0) hn);generalize findI f l 0=out at *;have HLN:=Hd hln;clear h hf hln;unfold PredTF at HP
 go_enter Tryz.func96,Tryz.ntmps96
 go_wp2_with fail
 go_loopw [5,8] (fun _ i wr=>∃ k:Nat,k≤n∧i=.int .i64 k∧(∀ j,j<k→f (l[j]?.getD ByteArray.empty)=false)∧Below w.heap.size w wr) (fun _ i _=>n-(intOf i).toNat)
 case atStart=>exact⟨0,Nat.zero_le _,rfl,fun j hj=>absurd hj (by omega),Below.refl _ _⟩
 case round=>
  obtain⟨k,hk,rfl,hto,hnx⟩:=hrel;have HT:=Hd hto;have HNX:=Hd hnx;clear hto
  by_cases hlt:k<n
  · obtain⟨b,off,rfl,hb,hc⟩:=(HR.out.below hnx).at_ hlt;have d0:=hc k hlt;have HCL:=Hd (HP.out _ (getD_mem (by rw [HLN.out];exact hlt))  wr hnx);have HH:=Hd (HHIT.out k (by rw [HLN.out];exact hlt) HT.out);have HS:=Hd fun(hf:f (l[k]?.getD ByteArray.empty)=false)=>to_next (P:=fun j=>f (l[j]?.getD ByteArray.empty)=false) HT.out hf;clear hnx hc
    skip
    generalize l[k]?.getD ByteArray.empty=x at d0 HCL HH HS
    cases hq:f x with
    | true=>
     have HO:=Hd (HH.out hq);rw [hq] at HCL
     go_wp2_with (go_at_fn g;refine HCL.out.mono ?_;rintro e w3 ⟨rfl,hb3⟩)
     go_ret
     exact⟨ret_int HO.out.symm,HNX.out.trans (hb3.mono HNX.out.size)⟩
    | false=>
     have HO:=Hd (HS.out hq);rw [hq] at HCL
     go_wp2_with (go_at_fn g;refine HCL.out.mono ?_;rintro e w3 ⟨rfl,hb3⟩;have HB3:=Hd (HNX.out.trans (hb3.mono HNX.out.size));clear hb3)
     go_roundw
     case rel=>exact⟨k+1,by omega,by go_num,HO.out,HB3.out⟩
     case measure=>simp [intOf];omega
  · have hkn:k=n:=by omega
    have HN:=Hd (HNO.out fun j hj=>HT.out j (by rw [HLN.out] at hj;omega))
    go_wp2_with fail
    go_ret
    exact⟨ret_int HN.out.symm,HNX.out⟩
theorem slHasTF(g:Nat) (x0:Value) (eg:∀ args w,(callFunc g args).run Tryz.prog w=.ok (.enter g args) w) (f:ByteArray→Bool) (A:Option Addr) (n c:Nat) (l:List ByteArray) (w:World) (h:RdT w A n l) (hf:PredTF g x0 f l w):
 Calls Tryz.prog 81 #[.slice A n c,.func (.func g) #[x0] #[]] w fun e w'=>e=.returned (.bool (l.any f))∧Below w.heap.size w w':=by
 have HI:=Hd (slIndexTF g x0 eg f A n c l w h hf);have HA:=Hd (findI_any f l);clear h hf
 go_enter Tryz.func81,Tryz.ntmps81
 go_wp2_with fail
 refine HI.out.mono ?_;rintro e w2 ⟨rfl,hb2⟩;have HB2:=Hd hb2;clear hb2
 cases ha:l.any f with
 | true=>
  rw [ha] at HA;have d0:decide ((0:Int)≤findI f l 0)=true:=HA.out
  go_wp2_with fail
  go_ret
  exact⟨ret_bool ha.symm,HB2.out⟩
 | false=>
  rw [ha] at HA;have d0:decide ((0:Int)≤findI f l 0)=false:=HA.out
  go_wp2_with fail
  go_ret
  exact⟨ret_bool ha.symm,HB2.out⟩
end
section
def firstF{α:Type} [DecidableEq α] (z:α) (f:Nat→α):Nat→α
 | 0=>z
 | n+1=>if firstF z f n=z then f n else firstF z f n
theorem firstF_no{α:Type} [DecidableEq α] {z:α}{f:Nat→α}:∀ {n:Nat},(∀ j,j<n→f j=z)→firstF z f n=z
 | 0,_=>rfl
 | n+1,h=>by rw [firstF,if_pos (firstF_no fun j hj=>h j (by omega)),h n (by omega)]
theorem firstF_hit{α:Type} [DecidableEq α] {z:α}{f:Nat→α}{k:Nat}:∀ {n:Nat},k<n→(∀ j,j<k→f j=z)→f k≠z→firstF z f n=f k
 | 0,h,_,_=>absurd h (by omega)
 | n+1,hk,hn,hf=>by
  rw [firstF]
  by_cases h:k<n
  · have h1:=firstF_hit h hn hf;rw [h1,if_neg hf]
  · obtain rfl:k=n:=by omega
    rw [if_pos (firstF_no hn)]
def armR(es:List En) (s:ByteArray):Option (Int × Int × Int):=
 if(s.toList==[116,114,117,101])=true then some (2,0,1)
 else if(s.toList==[102,97,108,115,101])=true then some (2,0,0)
 else(findE es s).map fun p=>(3,(p.1:Int),(p.2.1:Int))
def nmB(s:ByteArray) (t:ByteArray):Bool:=t.data.toList==s.data.toList
def isV(n:Nd) (s:ByteArray):Bool:=(declO n s).isSome
def armV(es:List En) (s:ByteArray):Bool:=(armR es s).isSome
def ndAt(p:Pg) (i:Nat):Nd:=p.ns[i]?.getD default
def partS(p:Pg) (i:Nat) (e:Ex):Bool:=
 if((e.k==3 || e.k==11 || e.k==12) && !isV (ndAt p i) e.s)=true then false
 else if e.arms.all (armV p.es)=false then false
 else if(e.k==4)=true then armV p.es e.s
 else if(e.k==13)=true then decide (0≤findN p e.s) && decide (findN p e.s<(i:Int))
 else !(e.k==17)
def cntS(s:ByteArray) (l:List ByteArray):Nat:=(l.filter (nmB s)).length
def defTo(n:Nd) (s:ByteArray) (i j:Nat):Nat:=cntS s ((n.eqs.take i).flatMap Qn.ns++((n.eqs[i]?.getD default).ns.take j))
def defN(n:Nd) (s:ByteArray) (i:Nat):Nat:=cntS s ((n.eqs.take i).flatMap Qn.ns)
def inputS(n:Nd) (s:ByteArray):Bool:=n.ins.any fun d=>nmB s d.nm
def nameS(n:Nd) (i:Nat) (ns:List ByteArray) (k:Nat):Int:=
 if isV n (ns[k]?.getD ByteArray.empty)=false then 5
 else if(inputS n (ns[k]?.getD ByteArray.empty) || decide (0<defN n (ns[k]?.getD ByteArray.empty) i))=true then 6
 else if(ns.take k).any (nmB (ns[k]?.getD ByteArray.empty))=true then 6 else 0
def eqS(p:Pg) (i j:Nat):Int:=
 if firstF (0:Int) (nameS (ndAt p i) j ((ndAt p i).eqs[j]?.getD default).ns) ((ndAt p i).eqs[j]?.getD default).ns.length=0
 then(if(partsX ((ndAt p i).eqs[j]?.getD default).x).all (partS p i)=true then 0 else 5)
 else firstF (0:Int) (nameS (ndAt p i) j ((ndAt p i).eqs[j]?.getD default).ns) ((ndAt p i).eqs[j]?.getD default).ns.length
def onS(p:Pg) (n:Nd) (d:Dc):Bool:=(d.on.toList==[]) || (isV n d.on && armV p.es d.ct)
abbrev Fl:=Int × Int × Int
def eqF(p:Pg) (i j:Nat):Fl:=if eqS p i j=0 then(0,0,0) else((i:Int),(j:Int),eqS p i j)
def nodeS(p:Pg) (i:Nat):Fl:=
 if(ndAt p i).all.all (onS p (ndAt p i))=false then((i:Int),-1,5)
 else if firstF ((0,0,0):Fl) (eqF p i) (ndAt p i).eqs.length=(0,0,0)
 then(if((ndAt p i).all.drop (ndAt p i).ins.length).all (fun d=>decide (0<defN (ndAt p i) d.nm (ndAt p i).eqs.length))=true then(0,0,0) else((i:Int),-1,5))
 else firstF ((0,0,0):Fl) (eqF p i) (ndAt p i).eqs.length
def checkS(p:Pg):Fl:=if checkN p=0 then firstF ((0,0,0):Fl) (nodeS p) p.ns.length else(0,-1,checkN p)
end
section
open Go.RowKit Go.Sort
def f3A(a b c:Int):Array Value:=#[.int .i64 a,.int .i64 b,.int .i64 c]
def F3(T:TypeId) (W:World) (g:Nat) (a b c:Int):Prop:=W.heap[g]?=some (Obj.cells (f3A a b c) T)
section
variable {T:TypeId}{W W':World}{g:Nat}{a b c:Int}
theorem F3.lt(h:F3 T W g a b c):g<W.heap.size:=(Array.getElem?_eq_some_iff.1 h).1
theorem F3.below(h:F3 T W g a b c) (hb:Below W.heap.size W W'):F3 T W' g a b c:=(hb.block g h.lt).trans h
theorem F3.set(h:F3 T W g a b c) (x y z:Int):F3 T (W.setRow g (f3A x y z)) g x y z:=setRow_heap _ _ _ _ _ _ h
theorem F3.cell(h:F3 T W g a b c) (j:Nat):W.cell? ⟨g,j,none⟩=(f3A a b c)[j]?:=by
 have:=cell_setRow_same W g j _ (f3A a b c) _ _ h;rwa [setRow_self W g _ _ _ h] at this
theorem F3.new(T:TypeId) (W:World) (a b c:Int):F3 T (W.alloc (.cells (f3A a b c) T)) W.heap.size a b c:=heap_alloc_new _ _
end
theorem fl_info:(Tryz.prog.info? 30).map (·.size)=some 3:=by kernel_rfl
theorem ty3_info:(Tryz.prog.info? 46).map (·.size)=some 3:=by kernel_rfl
theorem res_f3{fn:Func}{p:Tmp}(h:fn.results=#[.cell p 30]) (tmps:Array Value) (w:World) (i:Nat) (a b c:Int)
 (hp:tmps.getD p undef=.pointer (some ⟨i,0,none⟩)) (hg:F3 30 w i a b c):(results fn tmps).run Tryz.prog w=.ok (.agg (f3A a b c)) w:=
 results_cell_row h tmps w i _ _ _ _ hp hg Tryz.underlying30 rfl fl_info
theorem results_cell_two{fn:Func}{p u v:Tmp}{ty:TypeId}(h:fn.results=#[.cell p ty,.tmp u,.tmp v]) (tmps:Array Value) (P:Program) (w:World):
 (results fn tmps).run P w =
  ((asAddr (tmps.getD p undef)).run P w).andThen fun a w₁=>((loadVar ty a).run P w₁).andThen fun x w₂=>.ok (.tuple #[x,tmps.getD u undef,tmps.getD v undef]) w₂:=by
 simp only [results,h]
 simp [Sem.run_bind,Result.andThen]
theorem res_ty3{fn:Func}{p u v:Tmp}(h:fn.results=#[.cell p 46,.tmp u,.tmp v]) (tmps:Array Value) (w:World) (g:Nat) (a b c:Int)
 (hp:tmps.getD p undef=.pointer (some ⟨g,0,none⟩)) (hg:F3 46 w g a b c):(results fn tmps).run Tryz.prog w=.ok (.tuple #[.agg (f3A a b c),tmps.getD u undef,tmps.getD v undef]) w:=by
 rw [results_cell_two h,hp];have hl:=run_loadVar_row (P:=Tryz.prog) w g 46 46 _ _ _ hg Tryz.underlying46 rfl ty3_info
 simp [asAddr,Result.andThen,hl]
theorem f3_box{w w0:World}{T:TypeId}(h:w.alloc (.cells #[.int .i64 0,.int .i64 0,.int .i64 0] T)=w0):Below w.heap.size w w0∧F3 T w0 w.heap.size 0 0 0∧w0.heap.size=w.heap.size+1:=by
 subst h;exact⟨(Below.refl _ _).alloc (Nat.le_refl _) _,heap_alloc_new _ _,by simp⟩
def armW(o:Option (Int × Int × Int)):Value:=.tuple #[.agg (f3A ((o.map (·.1)).getD 0) ((o.map (·.2.1)).getD 0) 0),.int .i64 ((o.map (·.2.2)).getD 0),.bool o.isSome]
theorem below_set3{w w1:World}{v:Array Value}(h:Below w.heap.size w w1):Below w.heap.size w (w1.setRow w.heap.size v):=below_setRow h (Nat.le_refl _) _
theorem refFault(a b c:Int) (w:World):Calls Tryz.prog 11 #[.int .i64 a,.int .i64 b,.int .i64 c] w fun e w'=>e=.returned (.agg (f3A a b c))∧Below w.heap.size w w':=by
 go_enter Tryz.func11,Tryz.ntmps11
 go_upto_region 1 with(fail)
 generalize hw0:w.alloc _=w0;obtain⟨hb0,hR,hg0⟩:=f3_box hw0;have HB0:=Hd hb0;have HR:=Hd hR;clear hb0 hR hw0
 go_wp2_with (refine wpList_store_row rfl _ _ _ rfl (w.heap.size) _ rfl rfl _ _ HR.out fl_info rfl (by simp [Value.oneCell']) ?_)
 exact bodyPost_ret (res_f3 (p:=6) rfl _ _ w.heap.size a b c rfl (HR.out.set a b c)) rfl ⟨rfl,below_set3 HB0.out⟩
theorem refArm15(A:Option Addr) (n c:Nat) (es:List En) (s:ByteArray) (w:World) (hE:RdE w A n es):
 Calls Tryz.prog 70 #[.slice A n c,.string s] w fun e w'=>e=.returned (armW (armR es s))∧Below w.heap.size w w':=by
 have HC:=Hd fun w1 (hb:Below w.heap.size w w1)=>refCtor A n c es s w1 (hE.below hb);have HA:=Hd (show armR es s=if(s.toList==[116,114,117,101])=true then some (2,0,1) else if(s.toList==[102,97,108,115,101])=true then some (2,0,0) else(findE es s).map fun p=>(3,(p.1:Int),(p.2.1:Int)) from rfl);generalize armR es s=ar at *;clear hE
 cases h1:(s.toList==[116,114,117,101]) with
 | true=>
  have HE:=Hd (show ar=some (2,0,1) by rw [HA.out,if_pos h1]);rw [HE.out]
  go_enter Tryz.func70,Tryz.ntmps70
  go_upto_region 1 with(fail)
  generalize hw0:w.alloc _=w0;obtain⟨hb0,hR,hg0⟩:=f3_box hw0;have HB0:=Hd hb0;have HR:=Hd hR;clear hb0 hR hw0
  go_wp2_with (refine wpList_store_row rfl _ _ _ rfl (w.heap.size) _ rfl rfl _ _ HR.out ty3_info rfl (by simp [Value.oneCell']) ?_)
  exact bodyPost_ret (res_ty3 (p:=4) (u:=5) (v:=6) rfl _ _ w.heap.size 2 0 0 rfl (HR.out.set 2 0 0)) rfl ⟨rfl,below_set3 HB0.out⟩
 | false=>
  cases h2:(s.toList==[102,97,108,115,101]) with
  | true=>
   have HE:=Hd (show ar=some (2,0,0) by rw [HA.out,if_neg (by rw [h1];simp),if_pos h2]);rw [HE.out]
   go_enter Tryz.func70,Tryz.ntmps70
   go_upto_region 1 with(fail)
   generalize hw0:w.alloc _=w0;obtain⟨hb0,hR,hg0⟩:=f3_box hw0;have HB0:=Hd hb0;have HR:=Hd hR;clear hb0 hR hw0
   go_wp2_with (refine wpList_store_row rfl _ _ _ rfl (w.heap.size) _ rfl rfl _ _ HR.out ty3_info rfl (by simp [Value.oneCell']) ?_)
   exact bodyPost_ret (res_ty3 (p:=4) (u:=5) (v:=6) rfl _ _ w.heap.size 2 0 0 rfl (HR.out.set 2 0 0)) rfl ⟨rfl,below_set3 HB0.out⟩
  | false=>
   have HE:=Hd (show ar=(findE es s).map fun p=>(3,(p.1:Int),(p.2.1:Int)) by rw [HA.out,if_neg (by rw [h1];simp),if_neg (by rw [h2];simp)]);unfold ctorV at HC;rw [HE.out];clear HA HE
   cases hf:findE es s with
   | none=>
    rw [hf] at HC;simp only [Option.map_none,Option.getD_none,Option.isSome_none] at HC
    go_enter Tryz.func70,Tryz.ntmps70
    go_upto_region 1 with(fail)
    generalize hw0:w.alloc _=w0;obtain⟨hb0,hR,hg0⟩:=f3_box hw0;have HB0:=Hd hb0;have HR:=Hd hR;clear hb0 hR hw0
    go_wp2_with fail
    refine(HC.out _ HB0.out).mono ?_;rintro e w1 ⟨rfl,hb1⟩;have HR1:=Hd (HR.out.below hb1);have HB1:=Hd (HB0.out.trans (hb1.mono HB0.out.size));clear hb1
    go_wp2_with (refine wpList_store_row rfl _ _ _ rfl (w.heap.size) _ rfl rfl _ _ HR1.out ty3_info rfl (by simp [Value.oneCell']) ?_)
    exact bodyPost_ret (res_ty3 (p:=4) (u:=5) (v:=6) rfl _ _ w.heap.size 0 0 0 rfl (HR1.out.set 0 0 0)) rfl ⟨rfl,below_set3 HB1.out⟩
   | some q=>
    rw [hf] at HC;simp only [Option.map_some,Option.getD_some,Option.isSome_some] at HC;rw [show(some q).map (fun p:Pl=>((3:Int),(p.1:Int),(p.2.1:Int)))=some (3,(q.1:Int),(q.2.1:Int)) from rfl];generalize q.1=qa at *;generalize q.2.1=qb at *
    go_enter Tryz.func70,Tryz.ntmps70
    go_upto_region 1 with(fail)
    generalize hw0:w.alloc _=w0;obtain⟨hb0,hR,hg0⟩:=f3_box hw0;have HB0:=Hd hb0;have HR:=Hd hR;clear hb0 hR hw0
    go_wp2_with fail
    refine(HC.out _ HB0.out).mono ?_;rintro e w1 ⟨rfl,hb1⟩;have HR1:=Hd (HR.out.below hb1);have HB1:=Hd (HB0.out.trans (hb1.mono HB0.out.size));clear hb1
    go_wp2_with (refine wpList_store_row rfl _ _ _ rfl (w.heap.size) _ rfl rfl _ _ HR1.out ty3_info rfl (by simp [Value.oneCell']) ?_)
    exact bodyPost_ret (res_ty3 (p:=4) (u:=5) (v:=6) rfl _ _ w.heap.size 3 qa 0 rfl (HR1.out.set 3 qa 0)) rfl ⟨rfl,below_set3 HB1.out⟩
end
section
open Go.RowKit Go.Sort
theorem ret_boolS{a b:Bool}(h:a=b):Ending.returned (.bool a)=.returned (.bool b):=by rw [h]
theorem below_box{w w1 w2:World}{o:Obj}(h:Below w.heap.size w w1) (e:w1.alloc o=w2):Below w.heap.size w w2:=by
 subst e;exact h.alloc h.size _
theorem refIs15(x:Nd) (A1:Option Addr) (c1:Nat) (A2:Option Addr) (c2:Nat) (A3:Option Addr) (c3:Nat) (A4:Option Addr) (c4:Nat) (s:ByteArray) (w:World) (h:rdN w x A1 A2 A3 A4) (hn:x.all.length≤1000):
 Calls Tryz.prog 38 #[.agg (ndA x A1 c1 A2 c2 A3 c3 A4 c4),.string s] w fun e w'=>e=.returned (.bool (isV x s))∧Below w.heap.size w w':=by
 have HF:=Hd fun w1 hw=>nd_facts w x A1 c1 A2 c2 A3 c3 A4 c4 w1 hw h;have HC:=Hd fun w1 (a:rdN w1 x A1 A2 A3 A4)=>refDeclN x A1 c1 A2 c2 A3 c3 A4 c4 s w1 a hn;have HV:=Hd (show(declO x s).isSome=isV x s from rfl);clear h hn;unfold DeclPost declV at HC;unfold dcA at HC;generalize (declO x s).isSome=ok at *;generalize (declO x s).getD default=d at *;unfold ndA at HF HC ⊢
 go_enter Tryz.func38,Tryz.ntmps38
 go_upto_region 1 with(fail)
 generalize hw1:w.alloc _=w1;obtain⟨hb1,hg,hr1,hcell⟩:=HF.out w1 hw1;have HB1:=Hd hb1;obtain⟨q0,q1,q2,q3,q4,-⟩:=Sx (hcell w1 (Below.refl _ _));simp only [Ya,Yb,Yc] at q0 q1 q2 q3 q4;have HD:=Hd (HC.out w1 hr1);clear hw1 hcell hb1 HF HC hr1 hg
 go_wp2_with fail
 refine HD.out.mono ?_;rintro e w2 ⟨rfl,hb2⟩;have HB2:=Hd (HB1.out.trans (hb2.mono HB1.out.size));clear hb2 q0 q1 q2 q3 q4 HD
 go_wp2_with fail
 go_ret
 exact⟨ret_boolS HV.out,below_box HB2.out rfl⟩
theorem refArmP15(p:Pg) (E:Option Addr) (ec:Nat) (N:Option Addr) (nc:Nat) (s:ByteArray) (w:World) (h:rdP w p E N):
 Calls Tryz.prog 39 #[.agg (pgA p E ec N nc),.string s] w fun e w'=>e=.returned (.bool (armV p.es s))∧Below w.heap.size w w':=by
 have HF:=Hd fun w1 hw=>pg_facts w p E ec N nc w1 hw h;have HC:=Hd fun w1 (a:RdE w1 E p.es.length p.es)=>refArm15 E p.es.length ec p.es s w1 a;have HV:=Hd (show(armR p.es s).isSome=armV p.es s from rfl);clear h;unfold armW f3A at HC;generalize (armR p.es s).isSome=ok at *;generalize ((armR p.es s).map (·.1)).getD 0=r1 at *;generalize ((armR p.es s).map (·.2.1)).getD 0=r2 at *;generalize ((armR p.es s).map (·.2.2)).getD 0=r3 at *;unfold pgA at HF ⊢
 go_enter Tryz.func39,Tryz.ntmps39
 go_upto_region 1 with(fail)
 generalize hw1:w.alloc _=w1;obtain⟨hb1,hg,hr1,hcell⟩:=HF.out w1 hw1;have HB1:=Hd hb1;have q0:=hcell w1 (Below.refl _ _) 0;simp only [Ya,Yb,Yc] at q0;have HD:=Hd (HC.out w1 hr1.1);clear hw1 hcell hb1 HF HC hr1 hg
 go_wp2_with fail
 refine HD.out.mono ?_;rintro e w2 ⟨rfl,hb2⟩;have HB2:=Hd (HB1.out.trans (hb2.mono HB1.out.size));clear hb2 q0 HD
 go_wp2_with fail
 go_ret
 exact⟨ret_boolS HV.out,below_box HB2.out rfl⟩
theorem input_hit{n:Nd}{s:ByteArray}{k:Nat}(hk:k<n.ins.length) (h:((n.ins[k]?.getD default).nm.toList==s.toList)=true):inputS n s=true:=by
 unfold inputS;rw [List.getElem?_eq_getElem hk] at h;refine List.any_eq_true.2 ⟨_,List.getElem_mem hk,?_⟩;rw [Lib.toList_data,Lib.toList_data] at h;exact h
theorem input_no{n:Nd}{s:ByteArray}(h:∀ j,j<n.ins.length→((n.ins[j]?.getD default).nm.toList==s.toList)=false):inputS n s=false:=by
 unfold inputS;rw [List.any_eq_false];intro d hd;obtain⟨j,hj,rfl⟩:=List.getElem_of_mem hd;have:=h j hj;rw [List.getElem?_eq_getElem hj,Lib.toList_data,Lib.toList_data] at this
 simpa [nmB] using this
theorem refInput15(x:Nd) (A1:Option Addr) (c1:Nat) (A2:Option Addr) (c2:Nat) (A3:Option Addr) (c3:Nat) (A4:Option Addr) (c4:Nat) (s:ByteArray) (w:World) (h:rdN w x A1 A2 A3 A4):
 Calls Tryz.prog 71 #[.agg (ndA x A1 c1 A2 c2 A3 c3 A4 c4),.string s] w fun e w'=>e=.returned (.bool (inputS x s))∧Below w.heap.size w w':=by
 have HF:=Hd fun w1 hw=>nd_facts w x A1 c1 A2 c2 A3 c3 A4 c4 w1 hw h;have HH:=Hd fun k hk h=>input_hit (n:=x) (s:=s) (k:=k) hk h;have HN:=Hd fun h=>input_no (n:=x) (s:=s) h;have hmx:=RdS.max h.1;clear h;generalize inputS x s=res at *;unfold ndA at HF ⊢;generalize hn1:x.ins.length=n1 at *
 go_enter Tryz.func71,Tryz.ntmps71
 go_upto_region 1 with(fail)
 generalize hw1:w.alloc _=w1;obtain⟨hb1,hg,hr1,hcell⟩:=HF.out w1 hw1;have HB1:=Hd hb1;have HC:=Hd hcell;have HR:=Hd hr1.1;clear hw1 hcell hb1 HF hr1 hg
 go_wp2_with fail
 go_loopw [5] (fun i wr=>∃ k:Nat,k≤n1∧i=.int .i64 k∧(∀ j,j<k→((x.ins[j]?.getD default).nm.toList==s.toList)=false)∧Below w1.heap.size w1 wr) (fun i _=>n1-(intOf i).toNat)
 case atStart=>exact⟨0,Nat.zero_le _,rfl,fun j hj=>absurd hj (by omega),Below.refl _ _⟩
 case round=>
  obtain⟨k,hk,rfl,hto,hbr⟩:=hrel;have HTO:=Hd hto;have HBR:=Hd hbr;have q1:=HC.out wr hbr 1;simp only [Ya,Yb,Yc] at q1
  by_cases hlt:k<n1
  · obtain⟨b,off,rfl,hb,hat⟩:=RdS.at_ (HR.out.below hbr) (by omega);obtain⟨d0,-⟩:=(hat k (by omega)).six;have HHK:=Hd (HH.out k (by omega));have HNX:=Hd fun hf=>to_next (P:=fun j=>((x.ins[j]?.getD default).nm.toList==s.toList)=false) HTO.out hf;clear hat hto hbr;generalize (x.ins[k]?.getD default).nm=nm at *
    cases hx:(nm.toList==s.toList) with
    | true=>
     have HE:=Hd (HHK.out hx)
     go_wp2_with fail
     go_ret
     exact⟨ret_boolS HE.out.symm,HB1.out.trans (HBR.out.mono HB1.out.size)⟩
    | false=>
     have HNN:=Hd (HNX.out hx)
     go_wp2_with fail
     go_roundw
     case rel=>exact⟨k+1,by omega,by go_num,HNN.out,HBR.out⟩
     case measure=>simp [intOf];omega
  · have hkn:k=n1:=by omega
    have HE:=Hd (HN.out fun j hj=>hto j (by omega));clear hto hbr
    go_wp2_with fail
    go_ret
    exact⟨ret_boolS HE.out.symm,HB1.out.trans (HBR.out.mono HB1.out.size)⟩
theorem cntS_app(s:ByteArray) (a b:List ByteArray):cntS s (a++b)=cntS s a+cntS s b:=by simp [cntS]
theorem cntS_le(s:ByteArray) (l:List ByteArray):cntS s l≤l.length:=List.length_filter_le _ _
theorem defTo_zero(n:Nd) (s:ByteArray) (i:Nat):defTo n s i 0=defN n s i:=by simp [defTo,defN]
theorem defTo_next{n:Nd}{s:ByteArray}{i j:Nat}(hj:j<(n.eqs[i]?.getD default).ns.length):defTo n s i (j+1)=defTo n s i j+(if(((n.eqs[i]?.getD default).ns[j]?.getD ByteArray.empty).toList==s.toList)=true then 1 else 0):=by
 unfold defTo;rw [List.take_add_one,List.getElem?_eq_getElem hj,← List.append_assoc,cntS_app]
 congr 1
 simp only [Option.toList_some,Option.getD_some,Lib.toList_data];unfold cntS
 by_cases h:nmB s (n.eqs[i]?.getD default).ns[j]=true
 · rw [List.filter_cons_of_pos h];exact(if_pos h).symm
 · rw [List.filter_cons_of_neg h];exact(if_neg h).symm
theorem defTo_end{n:Nd}{s:ByteArray}{i j:Nat}(hi:i<n.eqs.length) (hj:j=(n.eqs[i]?.getD default).ns.length):defTo n s i j=defN n s (i+1):=by
 unfold defTo defN;rw [hj,List.take_length,List.take_add_one,List.getElem?_eq_getElem hi,List.flatMap_append]
 simp
theorem defN_zero(n:Nd) (s:ByteArray):defN n s 0=0:=by simp [defN,cntS]
end
section
open Go.RowKit Go.Sort
def FewQ(n:Nd):Prop:=n.eqs.length≤1000∧∀ q∈n.eqs,q.ns.length≤1000
theorem FewQ.at_{n:Nd}(h:FewQ n){i:Nat}(hi:i<n.eqs.length):(n.eqs[i]?.getD default).ns.length≤1000:=by
 rw [List.getElem?_eq_getElem hi,Option.getD_some];exact h.2 _ (List.getElem_mem _)
theorem defN_le{n:Nd}{s:ByteArray}(h:FewQ n):∀ i,defN n s i≤1000*n.eqs.length:=by
 intro i;refine Nat.le_trans (cntS_le _ _) ?_
 have h1:∀ (l:List Qn),(∀ q∈l,q.ns.length≤1000)→(l.flatMap Qn.ns).length≤1000*l.length:=by
  intro l
  induction l with
  | nil=>intro _;simp
  | cons a l ih=>
   intro hl;have h2:=ih fun q hq=>hl q (by simp [hq]);have h3:=hl a (by simp);simp only [List.flatMap_cons,List.length_append,List.length_cons];omega
 have h2:=h1 (n.eqs.take i) fun q hq=>h.2 q (List.mem_of_mem_take hq);have h3:(n.eqs.take i).length≤n.eqs.length:=by rw [List.length_take];omega
 exact Nat.le_trans h2 (Nat.mul_le_mul_left _ h3)
theorem defTo_le{n:Nd}{s:ByteArray}(h:FewQ n) (i j:Nat):defTo n s i j≤1000*n.eqs.length+j:=by
 have h1:=defN_le (s:=s) h i;unfold defTo;rw [cntS_app];have h2:=cntS_le s ((n.eqs[i]?.getD default).ns.take j);have h3:((n.eqs[i]?.getD default).ns.take j).length≤j:=by rw [List.length_take];omega
 unfold defN at h1;omega
theorem refDefined15(x:Nd) (A1:Option Addr) (c1:Nat) (A2:Option Addr) (c2:Nat) (A3:Option Addr) (c3:Nat) (A4:Option Addr) (c4:Nat) (s:ByteArray) (m:Nat) (w:World) (h:rdN w x A1 A2 A3 A4) (hm:m≤x.eqs.length) (hq:FewQ x):
 Calls Tryz.prog 41 #[.agg (ndA x A1 c1 A2 c2 A3 c3 A4 c4),.string s,.int .i64 m] w fun e w'=>e=.returned (.int .i64 (defN x s m))∧Below w.heap.size w w':=by
 have HF:=Hd fun w1 hw=>nd_facts w x A1 c1 A2 c2 A3 c3 A4 c4 w1 hw h;have hmx:=RdS.max h.2.2.2;have hqn:=hq.1;have HQA:=Hd fun i (hi:i<x.eqs.length)=>hq.at_ hi;have HNX:=Hd fun i j hj=>defTo_next (n:=x) (s:=s) (i:=i) (j:=j) hj;have HND:=Hd fun i j hi hj=>defTo_end (n:=x) (s:=s) (i:=i) (j:=j) hi hj;have HZ:=Hd fun i=>defTo_zero x s i;have HZ0:=Hd (defN_zero x s);have HLE:=Hd fun i j=>defTo_le (s:=s) hq i j;clear h hq;unfold ndA at HF ⊢;generalize hn1:x.eqs.length=nq at *;generalize defTo x s=dt at *;generalize defN x s=dn at *
 go_enter Tryz.func41,Tryz.ntmps41
 go_upto_region 1 with(fail)
 generalize hw1:w.alloc _=w1;obtain⟨hb1,hg,hr1,hcell⟩:=HF.out w1 hw1;have HB1:=Hd hb1;have q4:=hcell w1 (Below.refl _ _) 4;simp only [Ya,Yb,Yc] at q4;have HR:=Hd hr1.2.2.2;clear hw1 hcell hb1 HF hr1 hg
 go_wp2_with fail
 go_loopw [7,8] (fun c i wr=>∃ k:Nat,k≤m∧i=.int .i64 k∧c=.int .i64 (dn k)∧wr=w1) (fun _ i _=>m-(intOf i).toNat)
 case atStart=>exact⟨0,Nat.zero_le _,rfl,by rw [HZ0.out];rfl,rfl⟩
 case round=>
  obtain⟨k,hk,rfl,rfl,rfl⟩:=hrel
  by_cases hlt:k<m
  · obtain⟨b,off,rfl,hb,hat⟩:=RdS.at_ HR.out (by omega);obtain⟨A,c,A',ca,B',cb,r1,r2,e0,-⟩:=(hat k (by omega)).seven;have hql:=HQA.out k (by omega);have HNK:=Hd fun j hj=>HNX.out k j hj;have HNE:=Hd fun j hj=>HND.out k j (by omega) hj;have HZK:=Hd (HZ.out k);have HLK:=Hd (HLE.out k);have HR1:=Hd r1;clear hat r2 r1;generalize hnsl:(x.eqs[k]?.getD default).ns.length=nk at *;generalize (x.eqs[k]?.getD default).ns=ns at *
    go_wp2_with fail
    go_loopw [7,9] (fun c i wr2=>∃ j:Nat,j≤nk∧i=.int .i64 j∧c=.int .i64 (dt k j)∧wr2=wr) (fun _ i _=>nk-(intOf i).toNat)
    case atStart=>exact⟨0,Nat.zero_le _,rfl,by rw [HZK.out],rfl⟩
    case round=>
     obtain⟨j,hj,rfl,rfl,rfl⟩:=hrel;have hle:=HLK.out j
     by_cases hjt:j<nk
     · obtain⟨b2,off2,rfl,hb2,hat2⟩:=HR1.out.at_ hjt;have d0:=hat2 j hjt;have HN:=Hd (HNK.out j hjt);clear hat2;generalize ns[j]?.getD ByteArray.empty=y at *;generalize dt k j=dj at *
       cases hx:(y.toList==s.toList) with
       | true=>
        have HE:=Hd (show dt k (j+1)=dj+1 by rw [HN.out,if_pos hx])
        go_wp2_with fail
        go_roundw
        case rel=>exact⟨j+1,by omega,by go_num,by rw [HE.out];go_num,(by first | trivial | rfl)⟩
        case measure=>simp [intOf];omega
       | false=>
        have HE:=Hd (show dt k (j+1)=dj by rw [HN.out,if_neg (by rw [hx];simp)];rfl)
        go_wp2_with fail
        go_roundw
        case rel=>exact⟨j+1,by omega,by go_num,by rw [HE.out],(by first | trivial | rfl)⟩
        case measure=>simp [intOf];omega
     · have hjn:j=nk:=by omega
       have HE:=Hd (HNE.out j hjn)
       go_wp2_with fail
       go_roundw
       case rel=>exact⟨k+1,by omega,by go_num,by rw [HE.out],(by first | trivial | rfl)⟩
       case measure=>simp [intOf];omega
  · have hkm:k=m:=by omega
    subst hkm
    go_wp2_with fail
    go_ret
    exact⟨rfl,HB1.out⟩
end
end Go.Proofs.YtpehkppcdlboeaaGreat
