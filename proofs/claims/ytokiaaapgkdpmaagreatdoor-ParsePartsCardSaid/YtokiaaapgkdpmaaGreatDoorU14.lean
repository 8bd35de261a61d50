/- Parts: PaZ, PaN. Conditions: each theorem's own. -/
import Derived.Test.YtokiaaapgkdpmaaGreatDoorU13
namespace Go.Proofs.YtokiaaapgkdpmaaGreatDoor
set_option linter.unusedVariables false
set_option linter.unusedSimpArgs false
set_option maxRecDepth 100000
set_option maxHeartbeats 40000000
section
open Go.RowKit Go.Sort
def Less(g:Psr):Prop:=∀ r y r1,g r=.ok y r1→r1.length≤r.length
theorem tail_less(r:List Tk):r.tail.length≤r.length:=by simp
theorem bind_ok_inv{α β:Type}{x:PR α}{f:α→List Tk→PR β}{y:β}{r:List Tk}(h:x.bind f=.ok y r):∃ a r0,x=.ok a r0∧f a r0=.ok y r:=by
 cases x with
 | ok a r0=>exact⟨a,r0,rfl,h⟩
 | bad r0=>cases h
theorem need_less{s:List UInt8}{r r1:List Tk}{u:Unit}(h:needP s r=.ok u r1):r1.length≤r.length:=by
 unfold needP at h
 split at h
 · injection h with _ h;subst h;exact tail_less r
 · cases h
theorem name_less{s:List UInt8}{r r1:List Tk}(h:nameP r=.ok s r1):r1.length≤r.length:=by
 cases r with
 | nil=>cases h
 | cons t r=>
  simp only[nameP] at h
  split at h
  · injection h with _ h;subst h
    simp
  · cases h
theorem arm_less{s:List UInt8}{r r1:List Tk}(h:armP r=.ok s r1):r1.length≤r.length:=by
 unfold armP at h
 split at h
 · injection h with _ h;subst h;exact tail_less r
 split at h
 · injection h with _ h;subst h;exact tail_less r
 · cases r with
   | nil=>cases h
   | cons t r=>
    simp only at h
    split at h
    · injection h with _ h;subst h
      simp
    · cases h
theorem when_less{z:List UInt8 × List UInt8}{r r1:List Tk}(h:whenP r=.ok z r1):r1.length≤r.length:=by
 unfold whenP at h;have ht:=tail_less r
 split at h
 · obtain⟨a,r0,h1,h2⟩:=bind_ok_inv h;injection h2 with _ h2;subst h2;have:=name_less h1;omega
 split at h
 · obtain⟨a,r0,h1,h⟩:=bind_ok_inv h;obtain⟨_,r2,h2,h⟩:=bind_ok_inv h;obtain⟨_,r3,h3,h⟩:=bind_ok_inv h;obtain⟨_,r4,h4,h⟩:=bind_ok_inv h;injection h with _ h;subst h;have k1:=arm_less h1;have k2:=need_less h2;have k3:=name_less h3;have k4:=need_less h4;omega
 · obtain⟨a,r0,h1,h2⟩:=bind_ok_inv h;injection h2 with _ h2;subst h2;have:=name_less h1;omega
theorem more_less{ar:Psr}(H:Less ar):∀ (f:Nat) (acc:List Ex) (r:List Tk) (l:List Ex) (r1:List Tk),moreP ar f acc r=.ok l r1→r1.length≤r.length
 | 0,acc,r,l,r1,h=>by
  injection h with _ h;subst h;exact Nat.le_refl _
 | f+1,acc,r,l,r1,h=>by
  unfold moreP at h
  split at h
  · obtain⟨y,r0,h1,h⟩:=bind_ok_inv h;have:=H _ _ _ h1;have:=more_less H f _ _ _ _ h;have:=tail_less r;omega
  · injection h with _ h;subst h;exact Nat.le_refl _
theorem list_less{ar:Psr}(H:Less ar){m:List UInt8}{r:List Tk}{l:List Ex}{r1:List Tk}(h:listP ar m r=.ok l r1):r1.length≤r.length:=by
 obtain⟨y,r0,h1,h⟩:=bind_ok_inv h;obtain⟨l2,r2,h2,h⟩:=bind_ok_inv h;obtain⟨_,r3,h3,h⟩:=bind_ok_inv h;injection h with _ h;subst h;have:=H _ _ _ h1;have:=more_less H _ _ _ _ _ h2;have:=need_less h3;omega
theorem every_less{po:Psr}(H:Less po){s:List UInt8}{l:List Ex}{r:List Tk}{y:Ex}{r1:List Tk}(h:everyP po s l r=.ok y r1):r1.length≤r.length:=by
 unfold everyP at h
 split at h
 · obtain⟨y0,r0,h1,h⟩:=bind_ok_inv h;injection h with _ h;subst h;have:=H _ _ _ h1;have:=tail_less r;omega
 · injection h with _ h;subst h;exact Nat.le_refl _
theorem call_less{ar po:Psr}(H:Less ar)(K:Less po){s:List UInt8}{r:List Tk}{y:Ex}{r1:List Tk}(h:callP ar po s r=.ok y r1):r1.length≤r.length:=by
 unfold callP at h
 split at h
 · have:=every_less K h;have:=tail_less r;omega
 · obtain⟨l,r0,h1,h⟩:=bind_ok_inv h;have:=list_less H h1;have:=every_less K h;omega
theorem arms_less{ar:Psr}(H:Less ar):∀ (f:Nat) (am:List ByteArray) (l:List Ex) (r:List Tk) (z:List ByteArray × List Ex) (r1:List Tk),armsP ar f am l r=.ok z r1→r1.length≤r.length
 | 0,am,l,r,z,r1,h=>by
  injection h with _ h;subst h;exact Nat.le_refl _
 | f+1,am,l,r,z,r1,h=>by
  unfold armsP at h;obtain⟨a,r0,h1,h⟩:=bind_ok_inv h;obtain⟨_,r2,h2,h⟩:=bind_ok_inv h;obtain⟨y,r3,h3,h⟩:=bind_ok_inv h;obtain⟨_,r4,h4,h⟩:=bind_ok_inv h;have k1:=arm_less h1;have k2:=need_less h2;have k3:=H _ _ _ h3;have k4:=need_less h4
  split at h
  · have:=arms_less H f _ _ _ _ _ h;have:=tail_less r4;omega
  · injection h with _ h;subst h;omega
theorem merge_less{ar:Psr}(H:Less ar){r:List Tk}{y:Ex}{r1:List Tk}(h:mergeP ar r=.ok y r1):r1.length≤r.length:=by
 obtain⟨s,r0,h1,h⟩:=bind_ok_inv h;obtain⟨_,r2,h2,h⟩:=bind_ok_inv h;obtain⟨z,r3,h3,h⟩:=bind_ok_inv h;injection h with _ h;subst h;have:=name_less h1;have:=need_less h2;have:=arms_less H _ _ _ _ _ _ h3;omega
theorem round_less{ar:Psr}(H:Less ar){r:List Tk}{y:Ex}{r1:List Tk}(h:roundP ar r=.ok y r1):r1.length≤r.length:=by
 obtain⟨e,r0,h1,h⟩:=bind_ok_inv h;obtain⟨e2,r2,h2,h⟩:=bind_ok_inv h;obtain⟨_,r3,h3,h⟩:=bind_ok_inv h;injection h with _ h;subst h;have k1:=H _ _ _ h1;have k3:=need_less h3
 split at h2
 · obtain⟨_,r4,h4,h2⟩:=bind_ok_inv h2;obtain⟨_,r5,h5,h2⟩:=bind_ok_inv h2;obtain⟨_,r6,h6,h2⟩:=bind_ok_inv h2;obtain⟨_,r7,h7,h2⟩:=bind_ok_inv h2;obtain⟨_,r8,h8,h2⟩:=bind_ok_inv h2;injection h2 with _ h2;subst h2;have:=need_less h4;have:=H _ _ _ h5;have:=need_less h6;have:=need_less h7;have:=H _ _ _ h8;have:=tail_less r0;omega
 · injection h2 with _ h2;subst h2;omega
theorem if_less{ar:Psr}(H:Less ar){r:List Tk}{y:Ex}{r1:List Tk}(h:ifP ar r=.ok y r1):r1.length≤r.length:=by
 obtain⟨_,r4,h4,h2⟩:=bind_ok_inv h;obtain⟨_,r5,h5,h2⟩:=bind_ok_inv h2;obtain⟨_,r6,h6,h2⟩:=bind_ok_inv h2;obtain⟨_,r7,h7,h2⟩:=bind_ok_inv h2;obtain⟨_,r8,h8,h2⟩:=bind_ok_inv h2;injection h2 with _ h2;subst h2;have:=H _ _ _ h4;have:=need_less h5;have:=H _ _ _ h6;have:=need_less h7;have:=H _ _ _ h8;omega
theorem plain_less{r:List Tk}{z:Ex × List Tk}(h:plainP r=some z):z.2.length≤r.length:=by
 cases r with
 | nil=>cases h
 | cons t r=>
  simp only[plainP] at h
  repeat' split at h
  all_goals first | (injection h with h;subst h;simp) | cases h
theorem atom_less{ar po:Psr}(H:Less ar)(K:Less po):Less (atomP ar po):=by
 intro r y r1 h;unfold atomP at h;have ht:=tail_less r
 split at h
 · rename_i z hz
   injection h with _ h;subst h;have:=plain_less hz;omega
 split at h
 · obtain⟨l,r0,h1,h⟩:=bind_ok_inv h;injection h with _ h;subst h;have:=list_less H h1;omega
 split at h
 · have:=round_less H h;omega
 split at h
 · have:=merge_less H h;omega
 split at h
 · have:=if_less H h;omega
 · obtain⟨s,r0,h1,h⟩:=bind_ok_inv h;have:=name_less h1
   split at h
   · have:=call_less H K h;have:=tail_less r0;omega
   · injection h with _ h;subst h;omega
theorem tail_lessP{ar:Psr}(H:Less ar):∀ (f:Nat) (e:Ex) (r:List Tk) (y:Ex) (r1:List Tk),tailP ar f e r=.ok y r1→r1.length≤r.length
 | 0,e,r,y,r1,h=>by
  injection h with _ h;subst h;exact Nat.le_refl _
 | f+1,e,r,y,r1,h=>by
  have ht:=tail_less r;unfold tailP at h
  split at h
  · obtain⟨i,r0,h1,h⟩:=bind_ok_inv h;obtain⟨_,r2,h2,h⟩:=bind_ok_inv h;have:=H _ _ _ h1;have:=need_less h2;have:=tail_lessP H f _ _ _ _ h;omega
  split at h
  · obtain⟨z,r0,h1,h⟩:=bind_ok_inv h;have:=when_less h1;have:=tail_lessP H f _ _ _ _ h;omega
  · injection h with _ h;subst h;exact Nat.le_refl _
theorem post_less{ar po:Psr}(H:Less ar)(K:Less po):Less (postP ar po):=by
 intro r y r1 h;obtain⟨e,r0,h1,h⟩:=bind_ok_inv h;have:=atom_less H K _ _ _ h1;have:=tail_lessP H _ _ _ _ _ h;omega
structure LessP (P:Ps):Prop where
 ar:Less P.ar
 fb:Less P.fb
 un:Less P.un
 po:Less P.po
theorem un_less{P:Ps}(H:LessP P):Less (unP P):=by
 intro r y r1 h;have ht:=tail_less r;unfold unP at h
 split at h
 · obtain⟨e,r0,h1,h⟩:=bind_ok_inv h;injection h with _ h;subst h;have:=H.un _ _ _ h1;omega
 split at h
 · obtain⟨e,r0,h1,h⟩:=bind_ok_inv h;injection h with _ h;subst h;have:=H.un _ _ _ h1;omega
 split at h
 · obtain⟨e,r0,h1,h⟩:=bind_ok_inv h;injection h with _ h;subst h;have:=H.un _ _ _ h1;omega
 · exact post_less H.ar H.po _ _ _ h
theorem chain_less{sub:Psr}(H:Less sub)(ops:List (Int × List UInt8)):∀ (f:Nat) (e:Ex) (r:List Tk) (y:Ex) (r1:List Tk),chainP sub ops f e r=.ok y r1→r1.length≤r.length
 | 0,e,r,y,r1,h=>by
  injection h with _ h;subst h;exact Nat.le_refl _
 | f+1,e,r,y,r1,h=>by
  have ht:=tail_less r;unfold chainP at h
  split at h
  · injection h with _ h;subst h;exact Nat.le_refl _
  · obtain⟨z,r0,h1,h⟩:=bind_ok_inv h;have:=H _ _ _ h1;have:=chain_less H ops f _ _ _ _ h;omega
theorem level_less{sub:Psr}(H:Less sub)(ops:List (Int × List UInt8))(g:List Tk→Nat):Less fun r=>(sub r).bind fun e r1=>chainP sub ops (g r1) e r1:=by
 intro r y r1 h;obtain⟨e,r0,h1,h⟩:=bind_ok_inv h;have:=H _ _ _ h1;have:=chain_less H ops _ _ _ _ _ h;omega
theorem prod_less{P:Ps}(H:LessP P):Less (prodP P):=level_less (un_less H) opsProd fun r=>r.length+1
theorem sum_less{P:Ps}(H:LessP P):Less (sumP P):=level_less (prod_less H) opsSum fun r=>r.length+1
theorem cmp_less{P:Ps}(H:LessP P):Less (cmpP P):=level_less (sum_less H) opsCmp fun _=>1
theorem and_less{P:Ps}(H:LessP P):Less (andP P):=level_less (cmp_less H) opsAnd fun r=>r.length+1
theorem or_less{P:Ps}(H:LessP P):Less (orP P):=level_less (and_less H) opsOr fun r=>r.length+1
theorem fby_less{P:Ps}(H:LessP P):Less (fbyP P):=by
 intro r y r1 h;obtain⟨e,r0,h1,h⟩:=bind_ok_inv h;have:=or_less H _ _ _ h1;have:=tail_less r0
 split at h
 · obtain⟨e,r2,h2,h⟩:=bind_ok_inv h;injection h with _ h;subst h;have:=H.fb _ _ _ h2;omega
 · injection h with _ h;subst h;omega
theorem arrow_less{P:Ps}(H:LessP P):Less (arrowP P):=by
 intro r y r1 h;obtain⟨e,r0,h1,h⟩:=bind_ok_inv h;have:=fby_less H _ _ _ h1;have:=tail_less r0
 split at h
 · obtain⟨e,r2,h2,h⟩:=bind_ok_inv h;injection h with _ h;subst h;have:=H.ar _ _ _ h2;omega
 · injection h with _ h;subst h;omega
theorem ps_less:∀ n,LessP (psN n)
 | 0=>⟨fun _ _ _ h=>(by cases h),fun _ _ _ h=>(by cases h),fun _ _ _ h=>(by cases h),fun _ _ _ h=>(by cases h)⟩
 | n+1=>⟨arrow_less (ps_less n),fby_less (ps_less n),un_less (ps_less n),post_less (ps_less n).ar (ps_less n).po⟩
section
variable {w:World}{b:Nat}{A:Option Addr}{n c:Nat}{all r:List Tk}{bad:Bool}{m:Nat}
def zsL(zs:List (Int × ByteArray)):List (Int × List UInt8):=zs.map fun z=>(z.1,z.2.data.toList)
theorem sign_none:∀ (zs:List (Int × ByteArray)),(∀ i,i<zs.length→isP (zs[i]?.getD default).2.data.toList r=false)→signP (zsL zs) r=0
 | [],_=>rfl
 | z::zs,h=>by
  have h0:=h 0 (by simp);simp only[List.getElem?_cons_zero,Option.getD_some] at h0;simp only[zsL,List.map_cons,signP,h0,Bool.false_eq_true,if_false]
  exact sign_none zs fun i hi=>by
   have:=h (i+1) (by simpa using hi)
   simpa using this
theorem sign_first:∀ (zs:List (Int × ByteArray)) (k:Nat),k<zs.length→(∀ i,i<k→isP (zs[i]?.getD default).2.data.toList r=false)→isP (zs[k]?.getD default).2.data.toList r=true→signP (zsL zs) r=(zs[k]?.getD default).1
 | z::zs,0,_,_,h=>by
  simp only[List.getElem?_cons_zero,Option.getD_some] at h
  simp[zsL,signP,h]
 | z::zs,k+1,hk,h,h1=>by
  have h0:=h 0 (by omega);simp only[List.getElem?_cons_zero,Option.getD_some] at h0;simp only[zsL,List.map_cons,signP,h0,Bool.false_eq_true,if_false,List.getElem?_cons_succ];exact sign_first zs k (by simpa using hk) (fun i hi=>by simpa using h (i+1) (by omega)) (by simpa using h1)
structure SgAt (w:World) (b g1 g2:Nat) (zs:List (Int × ByteArray)):Prop where
 o:∀ i,i<zs.length→(bl b w).cell? ⟨g1,i,none⟩=some (.int .i64 (zs[i]?.getD default).1)
 s:∀ i,i<zs.length→(bl b w).cell? ⟨g2,i,none⟩=some (.string (zs[i]?.getD default).2)
theorem SgAt.kb{w w':World}{g1 g2:Nat}{zs:List (Int × ByteArray)}(h:SgAt w b g1 g2 zs)(hb:Below w.heap.size (bl b w) (bl b w')):SgAt w' b g1 g2 zs:=
 ⟨fun i hi=>(hb.cell (by have:=World.block_lt_of_cell? _ _ (h.o i hi);rwa [bl_size] at this)).trans (h.o i hi),fun i hi=>(hb.cell (by have:=World.block_lt_of_cell? _ _ (h.s i hi);rwa [bl_size] at this)).trans (h.s i hi)⟩
theorem prSign(zs:List (Int × ByteArray))(g1 g2 c1 c2:Nat)(h:PSt w b A n c all r bad)(hz:zs.length≤100)(hne:∀ z∈zs,z.1≠0)(hs:SgAt w b g1 g2 zs):
 Calls Tryz.prog 124 #[.pointer (some ⟨b,0,none⟩),.slice (some ⟨g1,0,none⟩) zs.length c1,.slice (some ⟨g2,0,none⟩) zs.length c2] w fun e w' =>
  ((bad=true∨signP (zsL zs) r=0)∧e=.returned (.int .i64 0)∧PSt w' b A n c all r bad∨(bad=false∧signP (zsL zs) r≠0∧e=.returned (.int .i64 (signP (zsL zs) r))∧(∃ s,isP s r=true)∧PSt w' b A n c all r.tail false))∧Below w.heap.size (bl b w) (bl b w'):=by
 have HP:=Hd h;have HS:=Hd hs;have HNE:=Hd hne;have HSN:=Hd fun(hx:∀ i,i<zs.length→isP (zs[i]?.getD default).2.data.toList r=false)=>sign_none (r:=r) zs hx;have HSF:=Hd fun k hk hx hy=>sign_first (r:=r) zs k hk hx hy;generalize hL:zs.length=L at *;have HL:=Hd hL;clear h hs hne hL
 go_enter Tryz.func124,Tryz.ntmps124
 go_wp2_with fail
 go_loopw [7] (fun i wr=>∃ k:Nat,k≤L∧i=.int .i64 k∧PSt wr b A n c all r bad∧Below w.heap.size (bl b w) (bl b wr)∧(∀ j,j<k→(!bad && isP (zs[j]?.getD default).2.data.toList r)=false)) (fun i _=>L-(intOf i).toNat)
 case atStart=>exact⟨0,Nat.zero_le _,rfl,HP.out,Below.refl _ _,fun j hj=>absurd hj (by omega)⟩
 case round=>
  obtain⟨k,hk,rfl,hP,hB,hno⟩:=hrel;have HPK:=Hd hP;have HBK:=Hd hB;have HNO:=Hd hno;clear hP hB hno
  by_cases hlt:k<L
  · have HSK:=Hd (HS.out.kb HBK.out);have s0:=bl_some (HSK.out.s k (by rw[HL.out];exact hlt));have HTK:=Hd (prTake (zs[k]?.getD default).2 HPK.out)
    cases hb:(!bad && isP (zs[k]?.getD default).2.data.toList r) with
    | true=>
     rw[hb] at HTK;have hbad:bad=false:=by cases bad <;> simp at hb ⊢
     subst hbad;have hi:isP (zs[k]?.getD default).2.data.toList r=true:=by simpa using hb
     have HE:=Hd (HSF.out k hlt (fun j hj=>by have:=HNO.out j hj;simpa using this) hi);have hT:takeR (zs[k]?.getD default).2.data.toList false r=r.tail:=by simp[takeR,hi]
     rw[hT] at HTK;have HN0:=Hd (HNE.out (zs[k]?.getD default) (by rw[List.getElem?_eq_getElem (by rw[HL.out];exact hlt)];exact List.getElem_mem _));have HI:=Hd hi;have HO:=Hd fun w2 (h2:SgAt w2 b g1 g2 zs)=>bl_some (h2.o k (by rw[HL.out];exact hlt));clear hb hi hT;generalize (zs[k]?.getD default).2=sk at *;generalize (zs[k]?.getD default).1=ok at *
     go_wp2_with fail
     refine HTK.out.mono ?_;rintro e w2 ⟨rfl,hP2,hB2⟩;have o0:=HO.out w2 (HSK.out.kb hB2);have HP2:=Hd hP2;have HB2:=Hd (kb_trans HBK.out hB2);clear hP2 hB2 s0
     go_wp2_with fail
     go_ret
     first | exact⟨.inr ⟨rfl,by rw[HE.out];exact HN0.out,by rw[HE.out];rfl,⟨_,HI.out⟩,HP2.out⟩,HB2.out⟩ | exact⟨.inr ⟨by rw[HE.out];exact HN0.out,by rw[HE.out];rfl,⟨_,HI.out⟩,HP2.out⟩,HB2.out⟩
    | false=>
     rw[hb] at HTK;have hT:takeR (zs[k]?.getD default).2.data.toList bad r=r:=by simp[takeR,hb]
     rw[hT] at HTK;have HB0:=Hd hb;clear hb hT;generalize hsk:(zs[k]?.getD default).2=sk at *;have HSK2:=Hd hsk;clear hsk
     go_wp2_with fail
     refine HTK.out.mono ?_;rintro e w2 ⟨rfl,hP2,hB2⟩;have HP2:=Hd hP2;have HB2:=Hd (kb_trans HBK.out hB2);clear hP2 hB2 s0
     go_wp2_with fail
     go_roundw
     case rel=>
      refine⟨k+1,by omega,by go_num,HP2.out,HB2.out,fun j hj=>?_⟩
      by_cases hjk:j<k
      · exact HNO.out j hjk
      · have:j=k:=by omega
        subst this;rw[HSK2.out];exact HB0.out
     case measure=>simp[intOf];omega
  · have hkl:k=L:=by omega
    subst hkl
    go_wp2_with fail
    go_ret
    refine⟨.inl ⟨?_,rfl,HPK.out⟩,HBK.out⟩
    cases bad with
    | true=>exact .inl rfl
    | false=>exact .inr (HSN.out fun i hi=>by have:=HNO.out i hi;simpa using this)
end
end
section
open Go.RowKit Go.Sort
theorem prBinC(op:Int)(a y:Ex)(A1:Option Addr)(ca1:Nat)(B1:Option Addr)(cb1:Nat)(A2:Option Addr)(ca2:Nat)(B2:Option Addr)(cb2:Nat)(w:World):
 Calls Tryz.prog 125 #[.int .i64 op,.agg (exA a A1 ca1 B1 cb1),.agg (exA y A2 ca2 B2 cb2)] w fun e w' =>
  ∃ g,e=.returned (.agg (exA (binX op a y) none 0 (some ⟨g,0,none⟩) 2))∧Below w.heap.size w w'∧w.heap.size≤g∧g<w'.heap.size∧w'.heap[g]?=some (.cells (exA2 a A1 ca1 B1 cb1 y A2 ca2 B2 cb2) 26):=by
 have HF:=Hd fun w1 (h:((w.alloc (.cells (exA a A1 ca1 B1 cb1) 26)).alloc (.cells (exA y A2 ca2 B2 cb2) 26)).alloc (.cells (exA zX none 0 none 0) 26)=w1)=>(show RowX w1 w.heap.size a A1 ca1 B1 cb1∧RowX w1 (w.heap.size+1) y A2 ca2 B2 cb2∧RowX w1 (w.heap.size+1+1) zX none 0 none 0∧Below w.heap.size w w1∧w1.heap.size=w.heap.size+1+1+1∧∀ B,Kp B w w1 from by
  subst h;have e1:RowX (w.alloc (.cells (exA a A1 ca1 B1 cb1) 26)) w.heap.size a A1 ca1 B1 cb1:=heap_alloc_new _ _
  have e2:RowX ((w.alloc (.cells (exA a A1 ca1 B1 cb1) 26)).alloc (.cells (exA y A2 ca2 B2 cb2) 26)) (w.heap.size+1) y A2 ca2 B2 cb2:=by
   have:=heap_alloc_new (w.alloc (.cells (exA a A1 ca1 B1 cb1) 26)) (.cells (exA y A2 ca2 B2 cb2) 26);rwa [World.size_alloc] at this
  have e3:RowX (((w.alloc (.cells (exA a A1 ca1 B1 cb1) 26)).alloc (.cells (exA y A2 ca2 B2 cb2) 26)).alloc (.cells (exA zX none 0 none 0) 26)) (w.heap.size+1+1) zX none 0 none 0:=by
   have:=heap_alloc_new ((w.alloc (.cells (exA a A1 ca1 B1 cb1) 26)).alloc (.cells (exA y A2 ca2 B2 cb2) 26)) (.cells (exA zX none 0 none 0) 26);rwa [World.size_alloc,World.size_alloc] at this
  exact⟨(e1.alloc _).alloc _,e2.alloc _,e3,(((Below.refl _ _).alloc (Nat.le_refl _) _).alloc (by simp) _).alloc (by simp <;> omega) _,by simp,fun B=>((Kp.alloc B _ _).trans (Kp.alloc B _ _)).trans (Kp.alloc B _ _)⟩)
 unfold exA at HF ⊢
 go_enter Tryz.func125,Tryz.ntmps125
 go_upto_region 1 with(fail)
 generalize hw1:((w.alloc _).alloc _).alloc _=w1;obtain⟨r1,r2,r3,hb1,hs1,hk1⟩:=HF.out w1 hw1;have HR3:=Hd r3;have HB1:=Hd hb1;have HK1:=Hd hk1;obtain⟨p0,p1,p2,p3,p4,p5⟩:=r1.cells;obtain⟨q0,q1,q2,q3,q4,q5⟩:=r2.cells;have HS1:=Hd hs1;clear r1 r2 r3 hb1 hk1 hw1 HF hs1
 go_wp2_with (refine wpList_store_row rfl _ _ _ rfl (w.heap.size+1+1) _ rfl rfl _ _ (HR3.out.alloc _) ex_info rfl (by simp[exA,Value.oneCell']) ?_)
 have hs1:=HS1.out;have hro:RowX ((w1.alloc (.cells (exA2 a A1 ca1 B1 cb1 y A2 ca2 B2 cb2) 26)).setRow (w.heap.size+1+1) (exA (binX op a y) none 0 (some ⟨w1.heap.size,0,none⟩) 2)) (w.heap.size+1+1) (binX op a y) none 0 (some ⟨w1.heap.size,0,none⟩) 2:=(HR3.out.alloc _).set
 have hlit:((w1.alloc (.cells (exA2 a A1 ca1 B1 cb1 y A2 ca2 B2 cb2) 26)).setRow (w.heap.size+1+1) (exA (binX op a y) none 0 (some ⟨w1.heap.size,0,none⟩) 2)).heap[w1.heap.size]?=some (.cells (exA2 a A1 ca1 B1 cb1 y A2 ca2 B2 cb2) 26):=by
  rw[setRow_other _ _ _ _ (by omega)];exact heap_alloc_new _ _
 have hbl:Below w.heap.size w ((w1.alloc (.cells (exA2 a A1 ca1 B1 cb1 y A2 ca2 B2 cb2) 26)).setRow (w.heap.size+1+1) (exA (binX op a y) none 0 (some ⟨w1.heap.size,0,none⟩) 2)):=below_setRow (HB1.out.alloc (by omega) _) (by omega) _;exact bodyPost_ret (res_ex rfl _ _ (w.heap.size+1+1) _ rfl rfl hro) rfl ⟨_,rfl,hbl,by omega,by rw[setRow_size,World.size_alloc];omega,hlit⟩
theorem two_in{g:Nat}{V:World}{x y:Ex}{A1 A2:Option Addr}{ca1 ca2:Nat}{B1 B2:Option Addr}{cb1 cb2:Nat}(hc:∀ j,V.cell? ⟨g,j,none⟩=(exA2 x A1 ca1 B1 cb1 y A2 ca2 B2 cb2)[j]?)(h:rdX V x A1 B1)(k:rdX V y A2 B2):
 rdXs V [x,y] g 0:=by
 simp only[rdXs];refine⟨⟨A1,ca1,B1,cb1,rangeAt_exL hc (fun j u hj=>?_),h⟩,⟨A2,ca2,B2,cb2,rangeAt_exL hc (fun j u hj=>?_),k⟩,trivial⟩
 · match j,hj with
   | 0,hj | 1,hj | 2,hj | 3,hj | 4,hj | 5,hj=>exact hj
 · match j,hj with
   | 0,hj | 1,hj | 2,hj | 3,hj | 4,hj | 5,hj=>exact hj
theorem bin_in{g:Nat}{V:World}{op:Int}{x y:Ex}{A1 A2:Option Addr}{ca1 ca2:Nat}{B1 B2:Option Addr}{cb1 cb2:Nat}(hg:g<V.heap.size)(hc:∀ j,V.cell? ⟨g,j,none⟩=(exA2 x A1 ca1 B1 cb1 y A2 ca2 B2 cb2)[j]?)(h:rdX V x A1 B1)(k:rdX V y A2 B2):
 rdX V (binX op x y) none (some ⟨g,0,none⟩):=by
 show rdX V (.mk 6 0 ByteArray.empty op [] [x,y]) none (some ⟨g,0,none⟩)
 rw[rdX_eq];exact⟨RdT.nil_ _,rfl,(show(2:Nat)≤9223372036854775807 by omega),fun _=>⟨g,0,rfl,hg,two_in hc h k⟩⟩
end
end Go.Proofs.YtokiaaapgkdpmaaGreatDoor
