/- Parts of the proof: PhD, PhC, PiA, PiB, PiC, PiF, ScI, PhF, PgZ. Conditions: each theorem's own. -/
import Derived.Test.YtegjgiofmpolnaaGreatO10
namespace Go.Proofs.YtegjgiofmpolnaaGreat
set_option linter.unusedVariables false
set_option linter.unusedSimpArgs false
set_option maxRecDepth 100000
set_option maxHeartbeats 40000000
section
open Go.RowKit Go.Sort
def listK(x:Nd) (k:Nat):List Dc:=match k with | 0=>x.ins | 1=>x.outs | _=>x.vars
def restO(x:Nd) (s:ByteArray) (k:Nat):Option Dc:=match k with
 | 0=>declO x s
 | 1=>(x.outs++x.vars).find? fun d=>d.nm.data.toList==s.data.toList
 | 2=>x.vars.find? fun d=>d.nm.data.toList==s.data.toList
 | _=>none
theorem restO_hit{x:Nd}{s:ByteArray}{k:Nat}{d:Dc}(hk:k<3) (h:(listK x k).find? (fun d=>d.nm.data.toList==s.data.toList)=some d):restO x s k=some d:=by
 match k,hk with
 | 0,_=>
  have h:x.ins.find? (fun d=>d.nm.data.toList==s.data.toList)=some d:=h
  show(x.ins++x.outs++x.vars).find? _=_
  rw [List.append_assoc,List.find?_append,h];rfl
 | 1,_=>
  have h:x.outs.find? (fun d=>d.nm.data.toList==s.data.toList)=some d:=h
  show(x.outs++x.vars).find? _=_
  rw [List.find?_append,h];rfl
 | 2,_=>exact h
theorem restO_next{x:Nd}{s:ByteArray}{k:Nat}(hk:k<3) (h:(listK x k).find? (fun d=>d.nm.data.toList==s.data.toList)=none):restO x s k=restO x s (k+1):=by
 match k,hk with
 | 0,_=>
  have h:x.ins.find? (fun d=>d.nm.data.toList==s.data.toList)=none:=h
  show(x.ins++x.outs++x.vars).find? _=(x.outs++x.vars).find? _
  rw [List.append_assoc,List.find?_append,h];rfl
 | 1,_=>
  have h:x.outs.find? (fun d=>d.nm.data.toList==s.data.toList)=none:=h
  show(x.outs++x.vars).find? _=x.vars.find? _
  rw [List.find?_append,h];rfl
 | 2,_=>exact h
def lists3(x:Nd) (A1:Option Addr) (c1:Nat) (A2:Option Addr) (c2:Nat) (A3:Option Addr) (c3:Nat):Array Value:=#[.slice A1 x.ins.length c1,.slice A2 x.outs.length c2,.slice A3 x.vars.length c3]
theorem lists_at{x:Nd}{A1:Option Addr}{c1:Nat}{A2:Option Addr}{c2:Nat}{A3:Option Addr}{c3:Nat}{A4:Option Addr}{w:World}(h:rdN w x A1 A2 A3 A4){k:Nat}(hk:k<3):
 ∃ A c,(lists3 x A1 c1 A2 c2 A3 c3)[k]?=some (.slice A (listK x k).length c)∧RdD w A (listK x k).length (listK x k):=by
 match k,hk with
 | 0,_=>exact⟨A1,c1,rfl,h.1⟩
 | 1,_=>exact⟨A2,c2,rfl,h.2.1⟩
 | 2,_=>exact⟨A3,c3,rfl,h.2.2.1⟩
theorem pgDecl(x:Nd) (A1:Option Addr) (c1:Nat) (A2:Option Addr) (c2:Nat) (A3:Option Addr) (c3:Nat) (A4:Option Addr) (c4:Nat) (s:ByteArray) (w:World) (h:rdN w x A1 A2 A3 A4):
 Calls Tryz.prog 115 #[.agg (ndA x A1 c1 A2 c2 A3 c3 A4 c4),.string s] w (DeclPost w (declO x s)):=by
 have HF:=Hd fun w1 hw=>nd_facts w x A1 c1 A2 c2 A3 c3 A4 c4 w1 hw h;have HDC:=Hd dc_facts;have H0:=Hd (show restO x s 0=declO x s from rfl);have HEND:=Hd (show restO x s 3=none from rfl);have HHITK:=Hd fun(k:Nat) hk d h=>restO_hit (x:=x) (s:=s) (k:=k) (d:=d) hk h;have HNEXT:=Hd fun(k:Nat) hk h=>restO_next (x:=x) (s:=s) (k:=k) hk h;have HLS:=Hd fun(w:World) (h:rdN w x A1 A2 A3 A4) (k:Nat) hk=>lists_at (c1:=c1) (c2:=c2) (c3:=c3) h (k:=k) hk;unfold ndA;unfold lists3 at HLS;generalize declO x s=out at *;generalize restO x s=rest at *;unfold dcA at HDC
 go_enter Tryz.func115,Tryz.ntmps115
 go_upto_region 1 with(fail)
 generalize hw1:w.alloc _=w1;obtain⟨hb1,hg,hR1,hcell⟩:=HF.out w1 hw1;have HB1:=Hd hb1;have HCE:=Hd hcell;have HR1:=Hd hR1
 have HN2:=Hd fun w2 (hw:w1.alloc (.cells (dcA default) 58)=w2)=>(show RowD w2 (w.heap.size+1) default∧Below w1.heap.size w1 w2∧w2.heap.size=w.heap.size+2 by
  subst hw;exact⟨by rw [← hg];exact heap_alloc_new _ _,(Below.refl _ _).alloc (Nat.le_refl _) _,by simp [hg]⟩)
 clear hw1 hcell hb1 HF h hR1;generalize hw2:w1.alloc _=w2;obtain⟨hr2,hb2,hg2⟩:=HN2.out w2 hw2;have HROW:=Hd hr2;simp only [ndA] at HCE;obtain⟨-,q1,q2,q3,-,-⟩:=Sx (HCE.out w2 hb2);simp only [Ya,Yb,Yc] at q1 q2 q3;have HW2:=Hd (HB1.out.trans (hb2.mono HB1.out.size));have HR2:=Hd (HR1.out.below hb2)
 have HN3:=Hd fun w3 (hw:w2.alloc (.cells #[.slice A1 x.ins.length c1,.slice A2 x.outs.length c2,.slice A3 x.vars.length c3] 50)=w3)=>(show Below w2.heap.size w2 w3∧w3.heap.size=w.heap.size+3∧∀ w',Below w3.heap.size w3 w'→∀ j,w'.cell? ⟨w.heap.size+2,j,none⟩=(#[.slice A1 x.ins.length c1,.slice A2 x.outs.length c2,.slice A3 x.vars.length c3]:Array Value)[j]? by
  subst hw;refine⟨(Below.refl _ _).alloc (Nat.le_refl _) _,by simp [hg2],fun w' hb j=>?_⟩;rw [← hg2,hb.cell (p:=⟨w2.heap.size,j,none⟩) (by simp),World.cell?_alloc_new])
 clear hw2 hr2 hb2 HN2 HCE HR1
 go_upto_region 2 with(fail)
 generalize hw3:w2.alloc _=w3;obtain⟨hb3,hg3,hcell3⟩:=HN3.out w3 hw3;have HC3:=Hd hcell3;have HROW3:=Hd (HROW.out.below hb3);have HW3:=Hd (HW2.out.trans (hb3.mono HW2.out.size));have HR3:=Hd (HR2.out.below hb3);clear hw3 HN3 hb3 hcell3 q1 q2 q3 HROW HW2 HR2
 go_loopw [18] (fun i wr=>∃ k:Nat,k≤3∧i=.int .i64 k∧rest k=out∧Below w3.heap.size w3 wr) (fun i _=>3-(intOf i).toNat)
 case atStart=>exact⟨0,by omega,rfl,H0.out,Below.refl _ _⟩
 case round=>
  obtain⟨k,hk,rfl,hto,hnx⟩:=hrel;have HT:=Hd hto;have HNX:=Hd hnx;clear hto
  by_cases hlt:k<3
  · obtain⟨A,c,hAk,hrd⟩:=HLS.out wr (HR3.out.below hnx) k hlt;have e0:=HC3.out wr hnx k;rw [hAk] at e0;have HRD:=Hd hrd;have hln:=RdS.len hrd;have hmx:=RdS.max hrd;have HHIT:=Hd (fun(j:Nat) hj hn hy=>HHITK.out k hlt _ (find_hit (l:=listK x k) (f:=fun d:Dc=>d.nm.data.toList==s.data.toList) (k:=j) hj hn hy));have HNO:=Hd (fun hn=>HNEXT.out k hlt (find_none (l:=listK x k) (f:=fun d:Dc=>d.nm.data.toList==s.data.toList) hn));clear hAk hrd hnx;generalize listK x k=l at *;generalize l.length=n at *
    go_upto_region 5 with(fail)
    generalize wr=wo at *
    go_loopw [24] (fun i wr=>∃ j:Nat,j≤n∧i=.int .i64 j∧(∀ m,m<j→((l[m]?.getD default).nm.data.toList==s.data.toList)=false)∧Below wo.heap.size wo wr) (fun i _=>n-(intOf i).toNat)
    case atStart=>exact⟨0,by omega,rfl,fun j hj=>absurd hj (by omega),Below.refl _ _⟩
    case round=>
     obtain⟨j,hj,rfl,hto,hny⟩:=hrel;have HT2:=Hd hto;have HNY:=Hd hny;have HNZ:=Hd (HNX.out.trans (hny.mono HNX.out.size));clear hto
     by_cases hjt:j<n
     · obtain⟨b,off,rfl,hb,hc⟩:=RdS.at_ (RdD.below HRD.out hny) (by omega);obtain⟨d0,d1,d2,d3,d4,d5⟩:=(hc j hjt).six;clear hc;have HH:=Hd (HHIT.out j (by omega) HT2.out);have HS:=Hd fun(hf:((l[j]?.getD default).nm.data.toList==s.data.toList)=false)=>to_next (P:=fun m=>((l[m]?.getD default).nm.data.toList==s.data.toList)=false) HT2.out hf;generalize l[j]?.getD default=d at d0 d1 d2 d3 d4 d5 HH HS;have HD4:=Hd fun w4 hw=>HDC.out wr d w4 hw;clear hny
       go_upto_region 7 with(fail)
       generalize hw4:World.alloc _ _=w4;obtain⟨hb4,hg4,hcell4⟩:=HD4.out _ hw4;obtain⟨r0,r1,r2,r3,r4,r5⟩:=Sx (hcell4 w4 (Below.refl _ _));simp only [Ya,Yb,Yc] at r0 r1 r2 r3 r4 r5;have HROW4:=Hd (HROW3.out.below (HNZ.out.trans (hb4.mono HNZ.out.size)));have HW4:=Hd (HW3.out.trans ((HNZ.out.trans (hb4.mono HNZ.out.size)).mono HW3.out.size));have HNY4:=Hd (HNY.out.trans (hb4.mono HNY.out.size));clear d0 d1 d2 d3 d4 d5 hb4 hcell4 hw4 HD4
       cases h1:(d.nm.toList==s.toList) with
       | true=>
        have HH2:=Hd (HH.out (by rw [← Lib.toList_data,← Lib.toList_data];exact h1));have HSET:=Hd (HROW4.out.set d);have HBS:=Hd (below_setRow HW4.out (g:=w.heap.size+1) (by omega) (dcA d));unfold dcA at HSET HBS;have HO:=Hd (show some d=out from HH2.out.symm.trans HT.out)
        go_wp2_with (refine wpList_store_row rfl _ _ _ rfl (w.heap.size+1) _ rfl rfl _ _ HROW4.out dcinfo rfl (by simp [Value.oneCell']) ?_)
        exact bodyPost_ret (res_dc2 (p:=4) (u:=5) rfl _ _ (w.heap.size+1) rfl HSET.out) rfl ⟨by rw [← HO.out];rfl,HBS.out⟩
       | false=>
        have HS2:=Hd (HS.out (by rw [← Lib.toList_data,← Lib.toList_data];exact h1))
        go_wp2_with fail
        go_roundw
        case rel=>exact⟨j+1,by omega,by go_num,HS2.out,HNY4.out⟩
        case measure=>simp [intOf];omega
     · have hjn:j=n:=by omega
       have HN:=Hd (show rest (k+1)=out from(HNO.out fun m hm=>HT2.out m (by omega)).symm.trans HT.out)
       go_wp2_with fail
       go_roundw
       case rel=>exact⟨k+1,by omega,by go_num,HN.out,HNZ.out⟩
       case measure=>simp [intOf];omega
  · have hk3:k=3:=by omega
    subst hk3;have HO:=Hd (show none=out from HEND.out.symm.trans HT.out);have HROW4:=Hd (HROW3.out.below hnx);have HW4:=Hd (HW3.out.trans (hnx.mono HW3.out.size));have HSET:=Hd (HROW4.out.set default);have HBS:=Hd (below_setRow HW4.out (g:=w.heap.size+1) (by omega) (dcA default))
    go_wp2_with (refine wpList_store_row rfl _ _ _ rfl (w.heap.size+1) _ rfl rfl _ _ HROW4.out dcinfo rfl (by simp [Value.oneCell']) ?_)
    exact bodyPost_ret (res_dc2 (d:=default) (p:=4) (u:=5) rfl _ _ (w.heap.size+1) rfl HSET.out) rfl ⟨by rw [← HO.out];rfl,HBS.out⟩
end
section
open Go.RowKit Go.Sort
end
section
open Go.RowKit Go.Sort
theorem nd_at{w:World}{A:Option Addr}{n i:Nat}{l:List Nd}(h:RdNs w A n l) (hi:i<n):
 ∃ b off A1 c1 A2 c2 A3 c3 A4 c4,A=some ⟨b,off,none⟩∧b<w.heap.size∧rdN w (l[i]?.getD default) A1 A2 A3 A4 ∧
 w.cell? ⟨b,off+i*5,none⟩=some (.string (l[i]?.getD default).nm)∧w.cell? ⟨b,off+i*5+1,none⟩=some (.slice A1 (l[i]?.getD default).ins.length c1)∧w.cell? ⟨b,off+i*5+2,none⟩=some (.slice A2 (l[i]?.getD default).outs.length c2)∧w.cell? ⟨b,off+i*5+3,none⟩=some (.slice A3 (l[i]?.getD default).vars.length c3)∧w.cell? ⟨b,off+i*5+4,none⟩=some (.slice A4 (l[i]?.getD default).eqs.length c4):=by
 obtain⟨b,off,e,hb,hc⟩:=RdS.at_ h (by omega);obtain⟨A1,c1,A2,c2,A3,c3,A4,c4,h1,h2⟩:=hc i hi;obtain⟨d0,d1,d2,d3,d4⟩:=ndL_five h1;exact⟨b,off,A1,c1,A2,c2,A3,c3,A4,c4,e,hb,h2,d0,d1,d2,d3,d4⟩
theorem dc_at{w:World}{A:Option Addr}{n i:Nat}{l:List Dc}(h:RdD w A n l) (hi:i<n):
 ∃ b off,A=some ⟨b,off,none⟩∧b<w.heap.size∧w.cell? ⟨b,off+i*6,none⟩=some (.string (l[i]?.getD default).nm)∧w.cell? ⟨b,off+i*6+1,none⟩=some (.int .i64 (l[i]?.getD default).k)∧w.cell? ⟨b,off+i*6+2,none⟩=some (.int .i64 (l[i]?.getD default).e) ∧
  w.cell? ⟨b,off+i*6+3,none⟩=some (.int .i64 (l[i]?.getD default).l)∧w.cell? ⟨b,off+i*6+4,none⟩=some (.string (l[i]?.getD default).on)∧w.cell? ⟨b,off+i*6+5,none⟩=some (.string (l[i]?.getD default).ct):=by
 obtain⟨b,off,e,hb,hc⟩:=RdS.at_ h (by omega);exact⟨b,off,e,hb,(hc i hi).six⟩
def PredNd(g:Nat) (lb:Array Value) (f:Nd→Bool) (l:List Nd) (w:World):Prop:=
 ∀ x,x∈l→∀ (A1:Option Addr) (c1:Nat) (A2:Option Addr) (c2:Nat) (A3:Option Addr) (c3:Nat) (A4:Option Addr) (c4:Nat) (W:World),Below w.heap.size w W→rdN W x A1 A2 A3 A4 →
  Calls Tryz.prog g (#[.agg (ndA x A1 c1 A2 c2 A3 c3 A4 c4)]++lb) W fun e w'=>e=.returned (.bool (f x))∧Below W.heap.size W w'
theorem slIndexNd(g:Nat) (lb:Array Value) (eg:∀ args w,(callFunc g args).run Tryz.prog w=.ok (.enter g args) w) (f:Nd→Bool) (A:Option Addr) (n c:Nat) (l:List Nd) (w:World) (h:RdNs w A n l) (hf:PredNd g lb f l w):
 Calls Tryz.prog 132 #[.slice A n c,.func (.func g) #[] lb] w fun e w'=>e=.returned (.int .i64 (findI f l 0))∧Below w.heap.size w w':=by
 have HR:=Hd h;have HP:=Hd hf;have hln:=RdS.len h;have hmx:=RdS.max h;have HHIT:=Hd (fun(k:Nat) hk hn hy=>show findI f l 0=(k:Int) by have:=findI_hit (l:=l) (f:=f) (k:=k) (i:=0) hk hn hy;rwa [Nat.zero_add] at this);have HNO:=Hd (fun hn=>show findI f l 0=-1 from findI_none (l:=l) (f:=f) (i:=0) hn);generalize findI f l 0=out at *;have HLN:=Hd hln;clear h hf hln;unfold PredNd at HP
 go_enter Tryz.func132,Tryz.ntmps132
 go_wp2_with fail
 go_loopw [5,8] (fun _ i wr=>∃ k:Nat,k≤n∧i=.int .i64 k∧(∀ j,j<k→f (l[j]?.getD default)=false)∧Below w.heap.size w wr) (fun _ i _=>n-(intOf i).toNat)
 case atStart=>exact⟨0,Nat.zero_le _,rfl,fun j hj=>absurd hj (by omega),Below.refl _ _⟩
 case round=>
  obtain⟨k,hk,rfl,hto,hnx⟩:=hrel;have HT:=Hd hto;have HNX:=Hd hnx;clear hto
  by_cases hlt:k<n
  · obtain⟨b,off,A1,c1,A2,c2,A3,c3,A4,c4,rfl,hb,hrd,d0,d1,d2,d3,d4⟩:=nd_at (HR.out.below hnx) hlt;have HCL:=Hd (HP.out _ (getD_memA (by rw [HLN.out];exact hlt)) A1 c1 A2 c2 A3 c3 A4 c4 wr hnx hrd);have HH:=Hd (HHIT.out k (by rw [HLN.out];exact hlt) HT.out);have HS:=Hd fun(hf:f (l[k]?.getD default)=false)=>to_next (P:=fun j=>f (l[j]?.getD default)=false) HT.out hf;clear hnx  hrd;unfold ndA at HCL;generalize l[k]?.getD default=x at d0 d1 d2 d3 d4 HCL HH HS
    cases hq:f x with
    | true=>
     have HO:=Hd (HH.out hq);rw [hq] at HCL
     go_wp2_with (go_at_fn g;refine HCL.out.mono ?_;rintro e w3 ⟨rfl,hb3⟩)
     go_ret
     exact⟨ret_int HO.out.symm,HNX.out.trans (hb3.mono HNX.out.size)⟩
    | false=>
     have HO:=Hd (HS.out hq);rw [hq] at HCL
     go_wp2_with (go_at_fn g;refine HCL.out.mono ?_;rintro e w3 ⟨rfl,hb3⟩;have HB3:=Hd (HNX.out.trans (hb3.mono HNX.out.size));clear hb3)
     go_roundw
     case rel=>exact⟨k+1,by omega,by go_num,HO.out,HB3.out⟩
     case measure=>simp [intOf];omega
  · have hkn:k=n:=by omega
    have HN:=Hd (HNO.out fun j hj=>HT.out j (by rw [HLN.out] at hj;omega))
    go_wp2_with fail
    go_ret
    exact⟨ret_int HN.out.symm,HNX.out⟩
end
section
open Go.RowKit Go.Sort
end
section
open Go.RowKit Go.Sort
end
section
open Go.RowKit Go.Sort
end
section
open Go.RowKit Go.Sort
end
section
open Go.RowKit Go.Sort
theorem pgFind1(x:Nd) (A1:Option Addr) (c1:Nat) (A2:Option Addr) (c2:Nat) (A3:Option Addr) (c3:Nat) (A4:Option Addr) (c4:Nat) (b:Nat) (s:ByteArray) (w:World) (h:rdN w x A1 A2 A3 A4) (hs:w.cell? ⟨b,0,none⟩=some (.string s)):
 Calls Tryz.prog 173 #[.agg (ndA x A1 c1 A2 c2 A3 c3 A4 c4),.pointer (some ⟨b,0,none⟩)] w fun e w'=>e=.returned (.bool (x.nm.toList==s.toList))∧Below w.heap.size w w':=by
 have HF:=Hd fun w1 hw=>nd_facts w x A1 c1 A2 c2 A3 c3 A4 c4 w1 hw h;have HS:=Hd hs;clear hs h;unfold ndA;generalize hq:(x.nm.toList==s.toList)=out
 go_enter Tryz.func173,Tryz.ntmps173
 go_upto_region 1 with(fail)
 generalize hw1:w.alloc _=w1;obtain⟨hb1,hg,hR1,hcell⟩:=HF.out w1 hw1;have HB1:=Hd hb1;have q0:=hcell w1 (Below.refl _ _) 0;simp only [ndA,List.getElem?_toArray,List.getElem?_cons_zero,List.getElem?_cons_succ] at q0;have q5:=(hb1.cell (p:=⟨b,0,none⟩) (World.block_lt_of_cell? _ _ HS.out)).trans HS.out;clear hw1 hcell hb1 HF hR1
 go_wp2_with fail
 go_ret
 exact⟨rfl,HB1.out⟩
theorem pgFind(p:Pg) (E:Option Addr) (ec:Nat) (N:Option Addr) (nc:Nat) (s:ByteArray) (w:World) (h:rdP w p E N):
 Calls Tryz.prog 153 #[.agg (pgA p E ec N nc),.string s] w fun e w'=>e=.returned (.int .i64 (findN p s))∧Below w.heap.size w w':=by
 have HF:=Hd fun w1 hw=>pg_facts w p E ec N nc w1 hw h;have hmk:∀ fn first cap w,(Instr.makeFunc fn first cap).run Tryz.prog w=.ok (.func fn first cap) w:=fun _ _ _ _=>rfl
 unfold pgA;generalize hout:findN p s=out
 go_enter Tryz.func153,Tryz.ntmps153
 go_upto_region 1 with(fail)
 generalize hw1:w.alloc _=w1;obtain⟨hb1,hg,hR1,hcell⟩:=HF.out w1 hw1;have HB1:=Hd hb1;have HCE:=Hd hcell;have HR1:=Hd hR1
 have HN2:=Hd fun w2 (hw:w1.alloc (.cells #[.string s] 9)=w2)=>(show w2.cell? ⟨w1.heap.size,0,none⟩=some (.string s)∧Below w1.heap.size w1 w2 by
  subst hw;exact⟨by rw [World.cell?_alloc_new];rfl,(Below.refl _ _).alloc (Nat.le_refl _) _⟩)
 clear hw1 hcell hb1 HF h hR1;generalize hw2:w1.alloc _=w2;obtain⟨hs2,hb2⟩:=HN2.out w2 hw2;have q1:=HCE.out w2 hb2 1;simp only [pgA,List.getElem?_toArray,List.getElem?_cons_zero,List.getElem?_cons_succ] at q1;have HB2:=Hd (HB1.out.trans (hb2.mono HB1.out.size))
 have HC:=Hd (slIndexNd 173 #[.pointer (some ⟨w1.heap.size,0,none⟩)] (fun _ _=>rfl) (fun n=>n.nm.toList==s.toList) N p.ns.length nc p.ns w2 (HR1.out.below hb2).2
  fun x _ A1 c1 A2 c2 A3 c3 A4 c4 W hW hr=>pgFind1 x A1 c1 A2 c2 A3 c3 A4 c4 w1.heap.size s W hr ((hW.cell (World.block_lt_of_cell? _ _ hs2)).trans hs2))
 have HO:=Hd (show findI (fun n:Nd=>n.nm.toList==s.toList) p.ns 0=out by rw [← hout];unfold findN;congr 1;funext n;rw [Lib.toList_data,Lib.toList_data]);rw [HO.out] at HC;clear hw2 hs2 hb2 HN2 HO hout;rw [hg] at HC
 go_wp2_with fail
 refine HC.out.mono ?_;rintro e w3 ⟨rfl,hb3⟩;have HB3:=Hd (HB2.out.trans (hb3.mono HB2.out.size));clear hb3
 go_wp2_with fail
 go_ret
 exact⟨rfl,HB3.out⟩
end
section
set_option maxRecDepth 100000
open Go.RowKit Go.ChangeShapes Go.WideShapes Go.Deep
theorem cells_ds:Tryz.prog.cellsOf 50=1:=by kernel_rfl
theorem cells_qs:Tryz.prog.cellsOf 51=1:=by kernel_rfl
theorem cells_ns:Tryz.prog.cellsOf 23=1:=by kernel_rfl
theorem cells_es:Tryz.prog.cellsOf 22=1:=by kernel_rfl
theorem cells_pg:Tryz.prog.cellsOf 25=2:=by kernel_rfl
theorem cells_exZ:Tryz.prog.cellsOf 35=6:=by kernel_rfl
section
variable {H:Type}{enc:TypeId × Value→H}{w:World}{base:Nat}{spare:Nat→Bool}{held:Bool}
theorem rdS_open{α:Type} [Inhabited α] {k:Nat}{T ST:TypeId}{At:World→Nat→Nat→α→Prop}(hu:Tryz.prog.underlying ST=some (.slice T)) (hck:Tryz.prog.cellsOf T=k) (hk:0<k)
 (h1:∀ {w:World}{b o:Nat}{x:α},At w b o x→∃ v,w.cell? ⟨b,o,none⟩=some v)
 (hone:∀ {fuel:Nat}{cs:List Value}{x:DataW H × List MemPlace},DataW.trod enc Tryz.prog w base spare held fuel T cs=some x→cs.length=k→∃ e:α,∀ b o,(∀ j v,cs[j]?=some v→w.cell? ⟨b,o+j,none⟩=some v)→At w b o e)
 {fuel:Nat}{A:Option Addr}{n c:Nat}{x:DataW H × List MemPlace}(h:DataW.trod enc Tryz.prog w base spare held fuel ST [.slice A n c]=some x):∃ l,RdS k At w A n l:=by
 rcases open_slice hu h with⟨hcs,_⟩|⟨a,len,cap,m,nn,D,Pl,hcs,_,hl,hm,hmm,_,hi⟩
 · simp at hcs
   obtain⟨rfl,rfl,rfl⟩:=hcs;exact⟨[],RdS.nil_ _ _ _⟩
 · simp at hcs
   obtain⟨rfl,rfl,rfl⟩:=hcs;have hnm:n≤m:=by rw [hmm];split <;> omega
   have hsp:0<n→a.spot=none:=fun hn=>by
    obtain⟨cs',hc,ht⟩:=hi 0 (by omega);rw [hck] at hc;obtain⟨_,hcl,hat⟩:=World.cells?_some hc;have h0:=hat (i:=0) hk;rw [List.getElem?_eq_getElem (by omega)] at h0
    simpa [Addr.add] using World.cell?_spot h0
   have hf:∀ i,i<n→∃ e:α,∀ b off,a=⟨b,off,none⟩→At w b (off+i*k) e:=by
    intro i him;obtain⟨cs',hc,ht⟩:=hi i (by omega);rw [hck] at hc;obtain⟨_,hcl,hat⟩:=World.cells?_some hc;obtain⟨e,he⟩:=hone ht hcl;refine⟨e,fun b off ea=>he b (off+i*k) fun j v hv=>?_⟩
    have hj:j<k:=by
     rcases Nat.lt_or_ge j k with h | h
     · exact h
     · rw [List.getElem?_eq_none (by omega)] at hv;cases hv
    have h2:=hat (i:=j) hj;rw [hv] at h2;have hadd:∀ i,(⟨b,off,none⟩:Addr).add i=⟨b,off+i,none⟩:=fun i=>by unfold Addr.add;split <;> simp_all
    rw [Go.Deep.add_add,ea,hadd,← Nat.add_assoc] at h2;exact h2
   obtain⟨f,hf⟩:=choose_lt (α:=α) hf;have hget:∀ i,i<n→((List.range n).map f)[i]?.getD default=f i:=fun i hi=>by simp [List.getElem?_map,List.getElem?_range hi]
   refine⟨(List.range n).map f,by simp,by unfold maxLen at hm;omega,fun hn=>?_⟩;obtain⟨b,off,spot⟩:=a;have hspot:=hsp hn;simp only at hspot;subst hspot;have h0:=hf 0 hn b off rfl;obtain⟨v0,hv0⟩:=h1 h0;exact⟨b,off,rfl,World.block_lt_of_cell? _ _ hv0,fun i hi=>by rw [hget i hi];exact hf i hi b off rfl⟩
theorem dc_open{fuel:Nat}{cs:List Value}{x:DataW H × List MemPlace}(h:DataW.trod enc Tryz.prog w base spare held fuel 58 cs=some x) (hl:cs.length=6):∃ d:Dc,cs=dcL d:=by
 obtain⟨ys,m,_,_,_,hy,hf⟩:=DataW.trod_struct Tryz.underlying58 h
 match cs,hl with
 | [v0,v1,v2,v3,v4,v5],_=>
  match ys,hy with
  | [y0,y1,y2,y3],_=>
   have t0:=hf 0 _ rfl;have t1:=hf 1 _ rfl;have t2:=hf 2 _ rfl;have t3:=hf 3 _ rfl
   simp [cells_s,cells_ty] at t0 t1 t2 t3
   obtain⟨s0,e0,_,_⟩:=DataW.trod_string Tryz.underlying9 t0;obtain⟨tk,te,tl,e1⟩:=ty_cells t1 rfl;obtain⟨s2,e2,_,_⟩:=DataW.trod_string Tryz.underlying9 t2;obtain⟨s3,e3,_,_⟩:=DataW.trod_string Tryz.underlying9 t3;injection e0 with e0;injection e1 with e1 e1';injection e1' with e1' e1'';injection e1'' with e1'';injection e2 with e2;injection e3 with e3;subst e0 e1 e1' e1'' e2 e3;exact⟨⟨s0,tk,te,tl,s2,s3⟩,rfl⟩
theorem decls_open{fuel:Nat}{v:Value}{x:DataW H × List MemPlace}(h:DataW.trod enc Tryz.prog w base spare held fuel 50 [v]=some x):∃ A n c l,v=.slice A n c∧RdD w A n l:=by
 obtain⟨A,n,c,rfl⟩:∃ A n c,v=.slice A n c:=by
  rcases open_slice Tryz.underlying50 h with⟨hcs,_⟩|⟨a,len,cap,m,nn,D,Pl,hcs,_⟩
  · simp at hcs;exact⟨_,_,_,hcs⟩
  · simp at hcs;exact⟨_,_,_,hcs⟩
 obtain⟨l,hl⟩:=rdS_open (α:=Dc) (k:=6) (At:=DcAt) Tryz.underlying50 cells_dc (by decide) (fun h=>⟨_,h 0 _ rfl⟩) (fun ht hl=>by
  obtain⟨d,rfl⟩:=dc_open ht hl;exact⟨d,fun b o hc j v hv=>hc j v hv⟩) h
 exact⟨A,n,c,l,rfl,hl⟩
theorem qn_open{fuel:Nat}{cs:List Value}{x:DataW H × List MemPlace}(h:DataW.trod enc Tryz.prog w base spare held fuel 56 cs=some x) (hl:cs.length=7):
 ∃ (q:Qn) (A:Option Addr) (c:Nat) (A':Option Addr) (ca:Nat) (B':Option Addr) (cb:Nat),cs=.slice A q.ns.length c::exL q.x A' ca B' cb∧RdT w A q.ns.length q.ns∧rdX w q.x A' B':=by
 obtain⟨ys,m,_,_,_,hy,hf⟩:=DataW.trod_struct Tryz.underlying56 h
 match cs,hl with
 | [v0,v1,v2,v3,v4,v5,v6],_=>
  match ys,hy with
  | [y0,y1],_=>
   have t0:=hf 0 _ rfl;have t1:=hf 1 _ rfl
   simp [cells_ss,cells_exZ] at t0 t1
   obtain⟨A,n,c,ss,rfl,hr,_⟩:=strs_openZ t0;obtain⟨X,A',ca,B',cb,e1,hx,_⟩:=ex_cells _ t1 rfl;have hn:=hr.len;subst hn;exact⟨⟨ss,X⟩,A,c,A',ca,B',cb,by rw [e1],hr,hx⟩
theorem eqs_open{fuel:Nat}{v:Value}{x:DataW H × List MemPlace}(h:DataW.trod enc Tryz.prog w base spare held fuel 51 [v]=some x):∃ A n c l,v=.slice A n c∧RdQ w A n l:=by
 obtain⟨A,n,c,rfl⟩:∃ A n c,v=.slice A n c:=by
  rcases open_slice Tryz.underlying51 h with⟨hcs,_⟩|⟨a,len,cap,m,nn,D,Pl,hcs,_⟩
  · simp at hcs;exact⟨_,_,_,hcs⟩
  · simp at hcs;exact⟨_,_,_,hcs⟩
 obtain⟨l,hl⟩:=rdS_open (α:=Qn) (k:=7) (At:=QnAt) Tryz.underlying51 cells_qn (by decide) (fun h=>by obtain⟨A,c,A',ca,B',cb,h1,_⟩:=h;exact⟨_,h1⟩) (fun ht hl=>by
  obtain⟨q,A,c,A',ca,B',cb,rfl,h1,h2⟩:=qn_open ht hl;refine⟨q,fun b o hc=>⟨A,c,A',ca,B',cb,hc 0 _ rfl,h1,fun j v hv=>?_,h2⟩⟩;have:=hc (j+1) v hv;rwa [show o+(j+1)=o+1+j by omega] at this) h
 exact⟨A,n,c,l,rfl,hl⟩
theorem nd_open{fuel:Nat}{cs:List Value}{x:DataW H × List MemPlace}(h:DataW.trod enc Tryz.prog w base spare held fuel 53 cs=some x) (hl:cs.length=5):
 ∃ (n:Nd) (A1:Option Addr) (c1:Nat) (A2:Option Addr) (c2:Nat) (A3:Option Addr) (c3:Nat) (A4:Option Addr) (c4:Nat),cs=ndL n A1 c1 A2 c2 A3 c3 A4 c4∧rdN w n A1 A2 A3 A4:=by
 obtain⟨ys,m,_,_,_,hy,hf⟩:=DataW.trod_struct Tryz.underlying53 h
 match cs,hl with
 | [v0,v1,v2,v3,v4],_=>
  match ys,hy with
  | [y0,y1,y2,y3,y4],_=>
   have t0:=hf 0 _ rfl;have t1:=hf 1 _ rfl;have t2:=hf 2 _ rfl;have t3:=hf 3 _ rfl;have t4:=hf 4 _ rfl
   simp [cells_s,cells_ds,cells_qs] at t0 t1 t2 t3 t4
   obtain⟨s0,e0,_,_⟩:=DataW.trod_string Tryz.underlying9 t0;injection e0 with e0;subst e0;obtain⟨A1,n1,c1,l1,rfl,r1⟩:=decls_open t1;obtain⟨A2,n2,c2,l2,rfl,r2⟩:=decls_open t2;obtain⟨A3,n3,c3,l3,rfl,r3⟩:=decls_open t3;obtain⟨A4,n4,c4,l4,rfl,r4⟩:=eqs_open t4;have h1:=RdS.len r1;have h2:=RdS.len r2;have h3:=RdS.len r3;have h4:=RdS.len r4;subst h1 h2 h3 h4;exact⟨⟨s0,l1,l2,l3,l4⟩,A1,c1,A2,c2,A3,c3,A4,c4,rfl,r1,r2,r3,r4⟩
theorem nodes_open{fuel:Nat}{v:Value}{x:DataW H × List MemPlace}(h:DataW.trod enc Tryz.prog w base spare held fuel 23 [v]=some x):∃ A n c l,v=.slice A n c∧RdNs w A n l:=by
 obtain⟨A,n,c,rfl⟩:∃ A n c,v=.slice A n c:=by
  rcases open_slice Tryz.underlying23 h with⟨hcs,_⟩|⟨a,len,cap,m,nn,D,Pl,hcs,_⟩
  · simp at hcs;exact⟨_,_,_,hcs⟩
  · simp at hcs;exact⟨_,_,_,hcs⟩
 obtain⟨l,hl⟩:=rdS_open (α:=Nd) (k:=5) (At:=NdAt) Tryz.underlying23 cells_nd (by decide) (fun h=>by obtain⟨A1,c1,A2,c2,A3,c3,A4,c4,h1,_⟩:=h;exact⟨_,h1 0 _ rfl⟩) (fun ht hl=>by
  obtain⟨x,A1,c1,A2,c2,A3,c3,A4,c4,rfl,h1⟩:=nd_open ht hl;exact⟨x,fun b o hc=>⟨A1,c1,A2,c2,A3,c3,A4,c4,fun j v hv=>hc j v hv,h1⟩⟩) h
 exact⟨A,n,c,l,rfl,hl⟩
theorem pg_open{v:Value}{d:DataW H}{ps:List MemPlace}{r:Reach}{b0:Nat}(hv:Value.okWide Tryz.prog w r b0 25 v) (h:DataW.Trod enc Tryz.prog w base spare held 25 v d ps):
 ∃ (p:Pg) (E:Option Addr) (ec:Nat) (N:Option Addr) (nc:Nat),v=.agg (pgA p E ec N nc)∧rdP w p E N:=by
 obtain⟨cs,rfl,hs⟩:=okWide_struct Tryz.underlying25 hv;obtain⟨fuel,hf⟩:=h;rw [cells_pg] at hs;have hl:(Value.agg cs).cells.toList.length=2:=by simpa [Value.cells] using hs
 obtain⟨ys,m,_,_,_,hy,hff⟩:=DataW.trod_struct Tryz.underlying25 hf
 obtain⟨v0,v1,hcs⟩:∃ v0 v1,(Value.agg cs).cells.toList=[v0,v1]:=by
  match (Value.agg cs).cells.toList,hl with
  | [v0,v1],_=>exact⟨v0,v1,rfl⟩
 rw [hcs] at hff
 match ys,hy with
 | [y0,y1],_=>
  have t0:=hff 0 _ rfl;have t1:=hff 1 _ rfl
  simp [cells_es,cells_ns] at t0 t1
  obtain⟨N,nn,nc,ns,rfl,hN⟩:=nodes_open t1
  obtain⟨E,en,ec,rfl⟩:∃ A n c,v0=.slice A n c:=by
   rcases open_slice Tryz.underlying22 t0 with⟨h2,_⟩|⟨a,len,cap,m,nn,D,Pl,h2,_⟩
   · simp at h2;exact⟨_,_,_,h2⟩
   · simp at h2;exact⟨_,_,_,h2⟩
  obtain⟨es,hE⟩:=enums_open t0;have h1:=hE.len;have h2:=RdS.len hN;subst h1 h2;refine⟨⟨es,ns⟩,E,ec,N,nc,?_,hE,hN⟩
  congr 1
  apply Array.toList_inj.1
  simpa [Value.cells,pgA] using hcs
end
end
end Go.Proofs.YtegjgiofmpolnaaGreat
