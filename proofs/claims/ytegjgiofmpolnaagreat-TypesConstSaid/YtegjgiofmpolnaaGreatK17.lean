/- Parts of the proof: PhD, PhC, PiA, PiB, PiC, PiF, ScI, PhF, VaB. Conditions: each theorem's own. -/
import Derived.Test.YtegjgiofmpolnaaGreatK10
namespace Go.Proofs.YtegjgiofmpolnaaGreat
set_option linter.unusedVariables false
set_option linter.unusedSimpArgs false
set_option maxRecDepth 100000
set_option maxHeartbeats 40000000
section
open Go.RowKit Go.Sort
def listK(x:Nd) (k:Nat):List Dc:=match k with | 0=>x.ins | 1=>x.outs | _=>x.vars
def restO(x:Nd) (s:ByteArray) (k:Nat):Option Dc:=match k with
 | 0=>declO x s
 | 1=>(x.outs++x.vars).find? fun d=>d.nm.data.toList==s.data.toList
 | 2=>x.vars.find? fun d=>d.nm.data.toList==s.data.toList
 | _=>none
theorem restO_hit{x:Nd}{s:ByteArray}{k:Nat}{d:Dc}(hk:k<3) (h:(listK x k).find? (fun d=>d.nm.data.toList==s.data.toList)=some d):restO x s k=some d:=by
 match k,hk with
 | 0,_=>
  have h:x.ins.find? (fun d=>d.nm.data.toList==s.data.toList)=some d:=h
  show(x.ins++x.outs++x.vars).find? _=_
  rw [List.append_assoc,List.find?_append,h];rfl
 | 1,_=>
  have h:x.outs.find? (fun d=>d.nm.data.toList==s.data.toList)=some d:=h
  show(x.outs++x.vars).find? _=_
  rw [List.find?_append,h];rfl
 | 2,_=>exact h
theorem restO_next{x:Nd}{s:ByteArray}{k:Nat}(hk:k<3) (h:(listK x k).find? (fun d=>d.nm.data.toList==s.data.toList)=none):restO x s k=restO x s (k+1):=by
 match k,hk with
 | 0,_=>
  have h:x.ins.find? (fun d=>d.nm.data.toList==s.data.toList)=none:=h
  show(x.ins++x.outs++x.vars).find? _=(x.outs++x.vars).find? _
  rw [List.append_assoc,List.find?_append,h];rfl
 | 1,_=>
  have h:x.outs.find? (fun d=>d.nm.data.toList==s.data.toList)=none:=h
  show(x.outs++x.vars).find? _=x.vars.find? _
  rw [List.find?_append,h];rfl
 | 2,_=>exact h
def lists3(x:Nd) (A1:Option Addr) (c1:Nat) (A2:Option Addr) (c2:Nat) (A3:Option Addr) (c3:Nat):Array Value:=#[.slice A1 x.ins.length c1,.slice A2 x.outs.length c2,.slice A3 x.vars.length c3]
theorem lists_at{x:Nd}{A1:Option Addr}{c1:Nat}{A2:Option Addr}{c2:Nat}{A3:Option Addr}{c3:Nat}{A4:Option Addr}{w:World}(h:rdN w x A1 A2 A3 A4){k:Nat}(hk:k<3):
 ∃ A c,(lists3 x A1 c1 A2 c2 A3 c3)[k]?=some (.slice A (listK x k).length c)∧RdD w A (listK x k).length (listK x k):=by
 match k,hk with
 | 0,_=>exact⟨A1,c1,rfl,h.1⟩
 | 1,_=>exact⟨A2,c2,rfl,h.2.1⟩
 | 2,_=>exact⟨A3,c3,rfl,h.2.2.1⟩
theorem pgDecl(x:Nd) (A1:Option Addr) (c1:Nat) (A2:Option Addr) (c2:Nat) (A3:Option Addr) (c3:Nat) (A4:Option Addr) (c4:Nat) (s:ByteArray) (w:World) (h:rdN w x A1 A2 A3 A4):
 Calls Tryz.prog 115 #[.agg (ndA x A1 c1 A2 c2 A3 c3 A4 c4),.string s] w (DeclPost w (declO x s)):=by
 have HF:=Hd fun w1 hw=>nd_facts w x A1 c1 A2 c2 A3 c3 A4 c4 w1 hw h;have HDC:=Hd dc_facts;have H0:=Hd (show restO x s 0=declO x s from rfl);have HEND:=Hd (show restO x s 3=none from rfl);have HHITK:=Hd fun(k:Nat) hk d h=>restO_hit (x:=x) (s:=s) (k:=k) (d:=d) hk h;have HNEXT:=Hd fun(k:Nat) hk h=>restO_next (x:=x) (s:=s) (k:=k) hk h;have HLS:=Hd fun(w:World) (h:rdN w x A1 A2 A3 A4) (k:Nat) hk=>lists_at (c1:=c1) (c2:=c2) (c3:=c3) h (k:=k) hk;unfold ndA;unfold lists3 at HLS;generalize declO x s=out at *;generalize restO x s=rest at *;unfold dcA at HDC
 go_enter Tryz.func115,Tryz.ntmps115
 go_upto_region 1 with(fail)
 generalize hw1:w.alloc _=w1;obtain⟨hb1,hg,hR1,hcell⟩:=HF.out w1 hw1;have HB1:=Hd hb1;have HCE:=Hd hcell;have HR1:=Hd hR1
 have HN2:=Hd fun w2 (hw:w1.alloc (.cells (dcA default) 58)=w2)=>(show RowD w2 (w.heap.size+1) default∧Below w1.heap.size w1 w2∧w2.heap.size=w.heap.size+2 by
  subst hw;exact⟨by rw [← hg];exact heap_alloc_new _ _,(Below.refl _ _).alloc (Nat.le_refl _) _,by simp [hg]⟩)
 clear hw1 hcell hb1 HF h hR1;generalize hw2:w1.alloc _=w2;obtain⟨hr2,hb2,hg2⟩:=HN2.out w2 hw2;have HROW:=Hd hr2;simp only [ndA] at HCE;obtain⟨-,q1,q2,q3,-,-⟩:=Sx (HCE.out w2 hb2);simp only [Ya,Yb,Yc] at q1 q2 q3;have HW2:=Hd (HB1.out.trans (hb2.mono HB1.out.size));have HR2:=Hd (HR1.out.below hb2)
 have HN3:=Hd fun w3 (hw:w2.alloc (.cells #[.slice A1 x.ins.length c1,.slice A2 x.outs.length c2,.slice A3 x.vars.length c3] 50)=w3)=>(show Below w2.heap.size w2 w3∧w3.heap.size=w.heap.size+3∧∀ w',Below w3.heap.size w3 w'→∀ j,w'.cell? ⟨w.heap.size+2,j,none⟩=(#[.slice A1 x.ins.length c1,.slice A2 x.outs.length c2,.slice A3 x.vars.length c3]:Array Value)[j]? by
  subst hw;refine⟨(Below.refl _ _).alloc (Nat.le_refl _) _,by simp [hg2],fun w' hb j=>?_⟩;rw [← hg2,hb.cell (p:=⟨w2.heap.size,j,none⟩) (by simp),World.cell?_alloc_new])
 clear hw2 hr2 hb2 HN2 HCE HR1
 go_upto_region 2 with(fail)
 generalize hw3:w2.alloc _=w3;obtain⟨hb3,hg3,hcell3⟩:=HN3.out w3 hw3;have HC3:=Hd hcell3;have HROW3:=Hd (HROW.out.below hb3);have HW3:=Hd (HW2.out.trans (hb3.mono HW2.out.size));have HR3:=Hd (HR2.out.below hb3);clear hw3 HN3 hb3 hcell3 q1 q2 q3 HROW HW2 HR2
 go_loopw [18] (fun i wr=>∃ k:Nat,k≤3∧i=.int .i64 k∧rest k=out∧Below w3.heap.size w3 wr) (fun i _=>3-(intOf i).toNat)
 case atStart=>exact⟨0,by omega,rfl,H0.out,Below.refl _ _⟩
 case round=>
  obtain⟨k,hk,rfl,hto,hnx⟩:=hrel;have HT:=Hd hto;have HNX:=Hd hnx;clear hto
  by_cases hlt:k<3
  · obtain⟨A,c,hAk,hrd⟩:=HLS.out wr (HR3.out.below hnx) k hlt;have e0:=HC3.out wr hnx k;rw [hAk] at e0;have HRD:=Hd hrd;have hln:=RdS.len hrd;have hmx:=RdS.max hrd;have HHIT:=Hd (fun(j:Nat) hj hn hy=>HHITK.out k hlt _ (find_hit (l:=listK x k) (f:=fun d:Dc=>d.nm.data.toList==s.data.toList) (k:=j) hj hn hy));have HNO:=Hd (fun hn=>HNEXT.out k hlt (find_none (l:=listK x k) (f:=fun d:Dc=>d.nm.data.toList==s.data.toList) hn));clear hAk hrd hnx;generalize listK x k=l at *;generalize l.length=n at *
    go_upto_region 5 with(fail)
    generalize wr=wo at *
    go_loopw [24] (fun i wr=>∃ j:Nat,j≤n∧i=.int .i64 j∧(∀ m,m<j→((l[m]?.getD default).nm.data.toList==s.data.toList)=false)∧Below wo.heap.size wo wr) (fun i _=>n-(intOf i).toNat)
    case atStart=>exact⟨0,by omega,rfl,fun j hj=>absurd hj (by omega),Below.refl _ _⟩
    case round=>
     obtain⟨j,hj,rfl,hto,hny⟩:=hrel;have HT2:=Hd hto;have HNY:=Hd hny;have HNZ:=Hd (HNX.out.trans (hny.mono HNX.out.size));clear hto
     by_cases hjt:j<n
     · obtain⟨b,off,rfl,hb,hc⟩:=RdS.at_ (RdD.below HRD.out hny) (by omega);obtain⟨d0,d1,d2,d3,d4,d5⟩:=(hc j hjt).six;clear hc;have HH:=Hd (HHIT.out j (by omega) HT2.out);have HS:=Hd fun(hf:((l[j]?.getD default).nm.data.toList==s.data.toList)=false)=>to_next (P:=fun m=>((l[m]?.getD default).nm.data.toList==s.data.toList)=false) HT2.out hf;generalize l[j]?.getD default=d at d0 d1 d2 d3 d4 d5 HH HS;have HD4:=Hd fun w4 hw=>HDC.out wr d w4 hw;clear hny
       go_upto_region 7 with(fail)
       generalize hw4:World.alloc _ _=w4;obtain⟨hb4,hg4,hcell4⟩:=HD4.out _ hw4;obtain⟨r0,r1,r2,r3,r4,r5⟩:=Sx (hcell4 w4 (Below.refl _ _));simp only [Ya,Yb,Yc] at r0 r1 r2 r3 r4 r5;have HROW4:=Hd (HROW3.out.below (HNZ.out.trans (hb4.mono HNZ.out.size)));have HW4:=Hd (HW3.out.trans ((HNZ.out.trans (hb4.mono HNZ.out.size)).mono HW3.out.size));have HNY4:=Hd (HNY.out.trans (hb4.mono HNY.out.size));clear d0 d1 d2 d3 d4 d5 hb4 hcell4 hw4 HD4
       cases h1:(d.nm.toList==s.toList) with
       | true=>
        have HH2:=Hd (HH.out (by rw [← Lib.toList_data,← Lib.toList_data];exact h1));have HSET:=Hd (HROW4.out.set d);have HBS:=Hd (below_setRow HW4.out (g:=w.heap.size+1) (by omega) (dcA d));unfold dcA at HSET HBS;have HO:=Hd (show some d=out from HH2.out.symm.trans HT.out)
        go_wp2_with (refine wpList_store_row rfl _ _ _ rfl (w.heap.size+1) _ rfl rfl _ _ HROW4.out dcinfo rfl (by simp [Value.oneCell']) ?_)
        exact bodyPost_ret (res_dc2 (p:=4) (u:=5) rfl _ _ (w.heap.size+1) rfl HSET.out) rfl ⟨by rw [← HO.out];rfl,HBS.out⟩
       | false=>
        have HS2:=Hd (HS.out (by rw [← Lib.toList_data,← Lib.toList_data];exact h1))
        go_wp2_with fail
        go_roundw
        case rel=>exact⟨j+1,by omega,by go_num,HS2.out,HNY4.out⟩
        case measure=>simp [intOf];omega
     · have hjn:j=n:=by omega
       have HN:=Hd (show rest (k+1)=out from(HNO.out fun m hm=>HT2.out m (by omega)).symm.trans HT.out)
       go_wp2_with fail
       go_roundw
       case rel=>exact⟨k+1,by omega,by go_num,HN.out,HNZ.out⟩
       case measure=>simp [intOf];omega
  · have hk3:k=3:=by omega
    subst hk3;have HO:=Hd (show none=out from HEND.out.symm.trans HT.out);have HROW4:=Hd (HROW3.out.below hnx);have HW4:=Hd (HW3.out.trans (hnx.mono HW3.out.size));have HSET:=Hd (HROW4.out.set default);have HBS:=Hd (below_setRow HW4.out (g:=w.heap.size+1) (by omega) (dcA default))
    go_wp2_with (refine wpList_store_row rfl _ _ _ rfl (w.heap.size+1) _ rfl rfl _ _ HROW4.out dcinfo rfl (by simp [Value.oneCell']) ?_)
    exact bodyPost_ret (res_dc2 (d:=default) (p:=4) (u:=5) rfl _ _ (w.heap.size+1) rfl HSET.out) rfl ⟨by rw [← HO.out];rfl,HBS.out⟩
end
section
open Go.RowKit Go.Sort
end
section
open Go.RowKit Go.Sort
theorem nd_at{w:World}{A:Option Addr}{n i:Nat}{l:List Nd}(h:RdNs w A n l) (hi:i<n):
 ∃ b off A1 c1 A2 c2 A3 c3 A4 c4,A=some ⟨b,off,none⟩∧b<w.heap.size∧rdN w (l[i]?.getD default) A1 A2 A3 A4 ∧
 w.cell? ⟨b,off+i*5,none⟩=some (.string (l[i]?.getD default).nm)∧w.cell? ⟨b,off+i*5+1,none⟩=some (.slice A1 (l[i]?.getD default).ins.length c1)∧w.cell? ⟨b,off+i*5+2,none⟩=some (.slice A2 (l[i]?.getD default).outs.length c2)∧w.cell? ⟨b,off+i*5+3,none⟩=some (.slice A3 (l[i]?.getD default).vars.length c3)∧w.cell? ⟨b,off+i*5+4,none⟩=some (.slice A4 (l[i]?.getD default).eqs.length c4):=by
 obtain⟨b,off,e,hb,hc⟩:=RdS.at_ h (by omega);obtain⟨A1,c1,A2,c2,A3,c3,A4,c4,h1,h2⟩:=hc i hi;obtain⟨d0,d1,d2,d3,d4⟩:=ndL_five h1;exact⟨b,off,A1,c1,A2,c2,A3,c3,A4,c4,e,hb,h2,d0,d1,d2,d3,d4⟩
theorem dc_at{w:World}{A:Option Addr}{n i:Nat}{l:List Dc}(h:RdD w A n l) (hi:i<n):
 ∃ b off,A=some ⟨b,off,none⟩∧b<w.heap.size∧w.cell? ⟨b,off+i*6,none⟩=some (.string (l[i]?.getD default).nm)∧w.cell? ⟨b,off+i*6+1,none⟩=some (.int .i64 (l[i]?.getD default).k)∧w.cell? ⟨b,off+i*6+2,none⟩=some (.int .i64 (l[i]?.getD default).e) ∧
  w.cell? ⟨b,off+i*6+3,none⟩=some (.int .i64 (l[i]?.getD default).l)∧w.cell? ⟨b,off+i*6+4,none⟩=some (.string (l[i]?.getD default).on)∧w.cell? ⟨b,off+i*6+5,none⟩=some (.string (l[i]?.getD default).ct):=by
 obtain⟨b,off,e,hb,hc⟩:=RdS.at_ h (by omega);exact⟨b,off,e,hb,(hc i hi).six⟩
def PredNd(g:Nat) (lb:Array Value) (f:Nd→Bool) (l:List Nd) (w:World):Prop:=
 ∀ x,x∈l→∀ (A1:Option Addr) (c1:Nat) (A2:Option Addr) (c2:Nat) (A3:Option Addr) (c3:Nat) (A4:Option Addr) (c4:Nat) (W:World),Below w.heap.size w W→rdN W x A1 A2 A3 A4 →
  Calls Tryz.prog g (#[.agg (ndA x A1 c1 A2 c2 A3 c3 A4 c4)]++lb) W fun e w'=>e=.returned (.bool (f x))∧Below W.heap.size W w'
theorem slIndexNd(g:Nat) (lb:Array Value) (eg:∀ args w,(callFunc g args).run Tryz.prog w=.ok (.enter g args) w) (f:Nd→Bool) (A:Option Addr) (n c:Nat) (l:List Nd) (w:World) (h:RdNs w A n l) (hf:PredNd g lb f l w):
 Calls Tryz.prog 132 #[.slice A n c,.func (.func g) #[] lb] w fun e w'=>e=.returned (.int .i64 (findI f l 0))∧Below w.heap.size w w':=by
 have HR:=Hd h;have HP:=Hd hf;have hln:=RdS.len h;have hmx:=RdS.max h;have HHIT:=Hd (fun(k:Nat) hk hn hy=>show findI f l 0=(k:Int) by have:=findI_hit (l:=l) (f:=f) (k:=k) (i:=0) hk hn hy;rwa [Nat.zero_add] at this);have HNO:=Hd (fun hn=>show findI f l 0=-1 from findI_none (l:=l) (f:=f) (i:=0) hn);generalize findI f l 0=out at *;have HLN:=Hd hln;clear h hf hln;unfold PredNd at HP
 go_enter Tryz.func132,Tryz.ntmps132
 go_wp2_with fail
 go_loopw [5,8] (fun _ i wr=>∃ k:Nat,k≤n∧i=.int .i64 k∧(∀ j,j<k→f (l[j]?.getD default)=false)∧Below w.heap.size w wr) (fun _ i _=>n-(intOf i).toNat)
 case atStart=>exact⟨0,Nat.zero_le _,rfl,fun j hj=>absurd hj (by omega),Below.refl _ _⟩
 case round=>
  obtain⟨k,hk,rfl,hto,hnx⟩:=hrel;have HT:=Hd hto;have HNX:=Hd hnx;clear hto
  by_cases hlt:k<n
  · obtain⟨b,off,A1,c1,A2,c2,A3,c3,A4,c4,rfl,hb,hrd,d0,d1,d2,d3,d4⟩:=nd_at (HR.out.below hnx) hlt;have HCL:=Hd (HP.out _ (getD_memA (by rw [HLN.out];exact hlt)) A1 c1 A2 c2 A3 c3 A4 c4 wr hnx hrd);have HH:=Hd (HHIT.out k (by rw [HLN.out];exact hlt) HT.out);have HS:=Hd fun(hf:f (l[k]?.getD default)=false)=>to_next (P:=fun j=>f (l[j]?.getD default)=false) HT.out hf;clear hnx  hrd;unfold ndA at HCL;generalize l[k]?.getD default=x at d0 d1 d2 d3 d4 HCL HH HS
    cases hq:f x with
    | true=>
     have HO:=Hd (HH.out hq);rw [hq] at HCL
     go_wp2_with (go_at_fn g;refine HCL.out.mono ?_;rintro e w3 ⟨rfl,hb3⟩)
     go_ret
     exact⟨ret_int HO.out.symm,HNX.out.trans (hb3.mono HNX.out.size)⟩
    | false=>
     have HO:=Hd (HS.out hq);rw [hq] at HCL
     go_wp2_with (go_at_fn g;refine HCL.out.mono ?_;rintro e w3 ⟨rfl,hb3⟩;have HB3:=Hd (HNX.out.trans (hb3.mono HNX.out.size));clear hb3)
     go_roundw
     case rel=>exact⟨k+1,by omega,by go_num,HO.out,HB3.out⟩
     case measure=>simp [intOf];omega
  · have hkn:k=n:=by omega
    have HN:=Hd (HNO.out fun j hj=>HT.out j (by rw [HLN.out] at hj;omega))
    go_wp2_with fail
    go_ret
    exact⟨ret_int HN.out.symm,HNX.out⟩
end
section
open Go.RowKit Go.Sort
end
section
open Go.RowKit Go.Sort
end
section
open Go.RowKit Go.Sort
end
section
open Go.RowKit Go.Sort
end
section
open Go.RowKit Go.Sort
theorem pgFind1(x:Nd) (A1:Option Addr) (c1:Nat) (A2:Option Addr) (c2:Nat) (A3:Option Addr) (c3:Nat) (A4:Option Addr) (c4:Nat) (b:Nat) (s:ByteArray) (w:World) (h:rdN w x A1 A2 A3 A4) (hs:w.cell? ⟨b,0,none⟩=some (.string s)):
 Calls Tryz.prog 173 #[.agg (ndA x A1 c1 A2 c2 A3 c3 A4 c4),.pointer (some ⟨b,0,none⟩)] w fun e w'=>e=.returned (.bool (x.nm.toList==s.toList))∧Below w.heap.size w w':=by
 have HF:=Hd fun w1 hw=>nd_facts w x A1 c1 A2 c2 A3 c3 A4 c4 w1 hw h;have HS:=Hd hs;clear hs h;unfold ndA;generalize hq:(x.nm.toList==s.toList)=out
 go_enter Tryz.func173,Tryz.ntmps173
 go_upto_region 1 with(fail)
 generalize hw1:w.alloc _=w1;obtain⟨hb1,hg,hR1,hcell⟩:=HF.out w1 hw1;have HB1:=Hd hb1;have q0:=hcell w1 (Below.refl _ _) 0;simp only [ndA,List.getElem?_toArray,List.getElem?_cons_zero,List.getElem?_cons_succ] at q0;have q5:=(hb1.cell (p:=⟨b,0,none⟩) (World.block_lt_of_cell? _ _ HS.out)).trans HS.out;clear hw1 hcell hb1 HF hR1
 go_wp2_with fail
 go_ret
 exact⟨rfl,HB1.out⟩
theorem pgFind(p:Pg) (E:Option Addr) (ec:Nat) (N:Option Addr) (nc:Nat) (s:ByteArray) (w:World) (h:rdP w p E N):
 Calls Tryz.prog 153 #[.agg (pgA p E ec N nc),.string s] w fun e w'=>e=.returned (.int .i64 (findN p s))∧Below w.heap.size w w':=by
 have HF:=Hd fun w1 hw=>pg_facts w p E ec N nc w1 hw h;have hmk:∀ fn first cap w,(Instr.makeFunc fn first cap).run Tryz.prog w=.ok (.func fn first cap) w:=fun _ _ _ _=>rfl
 unfold pgA;generalize hout:findN p s=out
 go_enter Tryz.func153,Tryz.ntmps153
 go_upto_region 1 with(fail)
 generalize hw1:w.alloc _=w1;obtain⟨hb1,hg,hR1,hcell⟩:=HF.out w1 hw1;have HB1:=Hd hb1;have HCE:=Hd hcell;have HR1:=Hd hR1
 have HN2:=Hd fun w2 (hw:w1.alloc (.cells #[.string s] 9)=w2)=>(show w2.cell? ⟨w1.heap.size,0,none⟩=some (.string s)∧Below w1.heap.size w1 w2 by
  subst hw;exact⟨by rw [World.cell?_alloc_new];rfl,(Below.refl _ _).alloc (Nat.le_refl _) _⟩)
 clear hw1 hcell hb1 HF h hR1;generalize hw2:w1.alloc _=w2;obtain⟨hs2,hb2⟩:=HN2.out w2 hw2;have q1:=HCE.out w2 hb2 1;simp only [pgA,List.getElem?_toArray,List.getElem?_cons_zero,List.getElem?_cons_succ] at q1;have HB2:=Hd (HB1.out.trans (hb2.mono HB1.out.size))
 have HC:=Hd (slIndexNd 173 #[.pointer (some ⟨w1.heap.size,0,none⟩)] (fun _ _=>rfl) (fun n=>n.nm.toList==s.toList) N p.ns.length nc p.ns w2 (HR1.out.below hb2).2
  fun x _ A1 c1 A2 c2 A3 c3 A4 c4 W hW hr=>pgFind1 x A1 c1 A2 c2 A3 c3 A4 c4 w1.heap.size s W hr ((hW.cell (World.block_lt_of_cell? _ _ hs2)).trans hs2))
 have HO:=Hd (show findI (fun n:Nd=>n.nm.toList==s.toList) p.ns 0=out by rw [← hout];unfold findN;congr 1;funext n;rw [Lib.toList_data,Lib.toList_data]);rw [HO.out] at HC;clear hw2 hs2 hb2 HN2 HO hout;rw [hg] at HC
 go_wp2_with fail
 refine HC.out.mono ?_;rintro e w3 ⟨rfl,hb3⟩;have HB3:=Hd (HB2.out.trans (hb3.mono HB2.out.size));clear hb3
 go_wp2_with fail
 go_ret
 exact⟨rfl,HB3.out⟩
end
section
open Go.RowKit
theorem rd_cell{w:World}{B:Option Addr}{m:Nat}{zs:List Int}(h:RdI w B m zs){j:Nat}(hj:j<m):∃ b off,B=some ⟨b,off,none⟩∧b<w.heap.size∧w.cell? ⟨b,off+j,none⟩=some (.int .i64 (zs[j]?.getD 0)):=by
 obtain⟨b,off,e,hb,hc⟩:=RdS.at_ h (by omega);refine⟨b,off,e,hb,?_⟩;have:=hc j hj;rwa [Nat.mul_one] at this
theorem refVals(A B:Option Addr) (n m c d:Nat) (ss tt:List Int) (w:World) (hs:RdI w A n ss) (ht:RdI w B m tt):
 Calls Tryz.prog 19 #[.slice A n c,.slice B m d] w fun r w'=>r=.returned (.bool (sameVB ss tt))∧Below w.heap.size w w':=by
 have h1:=RdS.len hs;have h2:=RdS.len ht;have h3:=RdS.max hs;have h4:=RdS.max ht
 by_cases hnm:n=m
 · subst hnm
   go_enter Tryz.func19,Tryz.ntmps19
   go_wp2_with fail
   go_loopw [5] (fun i wr=>∃ k:Nat,k≤n∧i=.int .i64 k∧sameZ ss tt k∧∃ p,wr=w.drewN p) (fun i _=>n-(intOf i).toNat)
   case atStart=>exact⟨0,Nat.zero_le _,rfl,fun j hj=>absurd hj (by omega),0,rfl⟩
   case round=>
    obtain⟨k,hk,rfl,hto,p,rfl⟩:=hrel;have HT:=Hd hto;clear hto
    by_cases hlt:k<n
    · obtain⟨b,off,rfl,hb,e1⟩:=rd_cell hs hlt;obtain⟨b',off',rfl,hb',e2⟩:=rd_cell ht hlt;have HN:=Hd fun h=>sameZ_succ HT.out h;have HF:=Hd fun h=>sameB_bad (zs:=ss) (ys:=tt) (i:=k) h;generalize ss[k]?.getD 0=x at e1 HN HF;generalize tt[k]?.getD 0=y at e2 HN HF
      by_cases he:x=y
      · have HN:=Hd (HN.out he);have hne:(x != y)=false:=by simp [bne,he]
        go_wp2_with fail
        go_quiet (fail)
        go_wp2_with fail
        go_roundw
        case rel=>exact⟨k+1,by omega,by go_num,HN.out,_,rfl⟩
        case measure=>simp [intOf];omega
      · have HF:=Hd (HF.out he);have hne:(x != y)=true:=by simpa [bne] using he
        go_wp2_with fail
        go_quiet (fail)
        go_wp2_with fail
        go_ret
        exact⟨ret_bool HF.out.symm,below_drewN (below_drewN (Below.refl _ _) _) _⟩
    · have HY:=Hd (sameB_yes (by omega) HT.out (by omega))
      go_wp2_with fail
      go_ret
      exact⟨ret_bool HY.out.symm,below_drewN (Below.refl _ _) _⟩
 · have hF:=Hd (sameB_len (zs:=ss) (ys:=tt) (by omega));have hne:((n:Int) != (m:Int))=true:=by rw [bne_iff_ne];omega
   go_enter Tryz.func19,Tryz.ntmps19
   go_wp2_with fail
   go_ret
   exact⟨ret_bool hF.out.symm,Below.refl _ _⟩
theorem refValRight(A:Option Addr) (n c:Nat) (es:List En) (B:Option Addr) (m d:Nat) (zs:List Int) (k e l:Int) (w:World) (hE:RdE w A n es) (hV:RdI w B m zs):
 Calls Tryz.prog 20 #[.slice A n c,tyV k e l,.slice B m d] w fun r w'=>r=.returned (.bool (rightVB es k e l zs))∧Below w.heap.size w w':=by
 have HB:=Hd ((Below.refl w.heap.size w).alloc (Nat.le_refl _) (.cells #[.int .i64 k,.int .i64 e,.int .i64 l] 38));have HC3:=Hd (cell3 w 38 (.int .i64 k) (.int .i64 e) (.int .i64 l));have hlen:=RdS.len hV;have hmx:=RdS.max hV;have hen:=hE.len;have hemx:=hE.max;have HCE:=Hd fun(W:World)=>refCells k e l W;have HRT:=Hd fun(W:World)=>refTyRight A n c k e l W hemx;have HON:=Hd fun(z:Int) (W:World) (h:RdE W A n es)=>refValOne A n c es k e l z W h;rw [← hen] at HRT;have HE:=Hd hE;have HV:=Hd hV;unfold tyV at HCE HON HRT ⊢;clear hE hV
 cases hr:rightB es.length k e l with
 | false=>
  have HF:=Hd (rightV_no (zs:=zs) hr);rw [hr] at HRT;clear hr
  go_enter Tryz.func20,Tryz.ntmps20
  go_wp2_with fail
  rw [← hen];refine(HRT.out _).mono ?_;rintro r w1 ⟨rfl,hb1⟩;have HB1:=Hd (HB.out.trans (hb1.mono HB.out.size));clear hb1
  go_wp2_with fail
  go_ret
  exact⟨ret_bool HF.out.symm,HB1.out⟩
 | true=>
  rw [hr] at HRT;clear hr
  by_cases hm:(m:Int)=cellsN l
  · have hne:((m:Int) != cellsN l)=false:=by simp [bne,hm]
    have HY:=Hd fun(i:Nat) (H:onesTo es k e l zs i) (hi:m≤i)=>rightV_yes (by omega) H (by omega);have HM:=Hd hm;generalize cellsN l=q at hne HCE HM;clear hm
    go_enter Tryz.func20,Tryz.ntmps20
    go_wp2_with fail
    rw [← hen];refine(HRT.out _).mono ?_;rintro r w0 ⟨rfl,hb0⟩;have p0:=(hb0.cell (p:=⟨w.heap.size,0,none⟩) (by simp)).trans HC3.out.1;have p1:=(hb0.cell (p:=⟨w.heap.size,1,none⟩) (by simp)).trans HC3.out.2.1;have p2:=(hb0.cell (p:=⟨w.heap.size,2,none⟩) (by simp)).trans HC3.out.2.2;have hws0:w.heap.size<w0.heap.size:=by have:=hb0.size;simp at this;omega
    have HB0:=Hd (HB.out.trans (hb0.mono HB.out.size));clear hb0
    go_wp2_with fail
    refine(HCE.out _).mono ?_;rintro r w1 ⟨rfl,hb1⟩;have q0:=(hb1.cell (p:=⟨w.heap.size,0,none⟩) hws0).trans p0;have q1:=(hb1.cell (p:=⟨w.heap.size,1,none⟩) hws0).trans p1;have q2:=(hb1.cell (p:=⟨w.heap.size,2,none⟩) hws0).trans p2;have hws:w.heap.size<w1.heap.size:=by have:=hb1.size;omega
    have HB1:=Hd (HB0.out.trans (hb1.mono HB0.out.size));clear hb1 p0 p1 p2
    go_wp2_with fail
    go_loopw [7] (fun i wr=>∃ j:Nat,j≤m∧i=.int .i64 j∧onesTo es k e l zs j∧Below w.heap.size w wr∧w.heap.size<wr.heap.size∧wr.cell? ⟨w.heap.size,0,none⟩=some (.int .i64 k)∧wr.cell? ⟨w.heap.size,1,none⟩=some (.int .i64 e)∧wr.cell? ⟨w.heap.size,2,none⟩=some (.int .i64 l)) (fun i _=>m-(intOf i).toNat)
    case atStart=>exact⟨0,Nat.zero_le _,rfl,fun j hj=>absurd hj (by omega),HB1.out,hws,q0,q1,q2⟩
    case round=>
     clear q0 q1 q2 hws;obtain⟨j,hj,rfl,hto,hnx,hws,q0,q1,q2⟩:=hrel;have HT:=Hd hto;have HNX:=Hd hnx;clear hto
     by_cases hlt:j<m
     · obtain⟨b,off,rfl,hb,hc⟩:=rd_cell HV.out hlt;have hck:=(hnx.cell (p:=⟨b,off+j,none⟩) hb).trans hc;have hbr:b<wr.heap.size:=by have:=hnx.size;omega
       clear hc hnx
       cases hone:oneAt es k e l zs j with
       | false=>
        have HF:=Hd (rightV_bad (zs:=zs) (by omega) hone);have HC:=Hd fun W h=>by have:=HON.out (zs[j]?.getD 0) W h;rw [show oneB es k e l (zs[j]?.getD 0)=false from hone] at this;exact this
        clear hone;generalize zs[j]?.getD 0=x at hck HC
        go_wp2_with fail
        go_region_held3 (fun W=>W.cell? ⟨w.heap.size,0,none⟩=some (.int .i64 k)∧W.cell? ⟨w.heap.size,1,none⟩=some (.int .i64 e)∧W.cell? ⟨w.heap.size,2,none⟩=some (.int .i64 l)∧W.cell? ⟨b,off+j,none⟩=some (.int .i64 x)) (first | exact⟨q0,q1,q2,hck⟩ | exact⟨p0,p1,p2,pck⟩)
         ((go_at_call 52;refine(HC.out _ ((HE.out.below HNX.out).drewN _)).mono ?_;rintro r w2 ⟨rfl,hb2⟩;have p0:=(hb2.cell (p:=⟨w.heap.size,0,none⟩) hws).trans q0;have p1:=(hb2.cell (p:=⟨w.heap.size,1,none⟩) hws).trans q1;have p2:=(hb2.cell (p:=⟨w.heap.size,2,none⟩) hws).trans q2;have pck:=(hb2.cell (p:=⟨b,off+j,none⟩) hbr).trans hck;have HB2:=Hd hb2))
        have HB3:=Hd ((below_drewN HNX.out 1).trans (HB2.out.mono HNX.out.size))
        go_wp2_with fail
        go_ret
        exact⟨ret_bool HF.out.symm,HB3.out⟩
       | true=>
        have HN:=Hd (onesTo_succ HT.out hone);have HC:=Hd fun W h=>by have:=HON.out (zs[j]?.getD 0) W h;rw [show oneB es k e l (zs[j]?.getD 0)=true from hone] at this;exact this
        clear hone;generalize zs[j]?.getD 0=x at hck HC
        go_wp2_with fail
        go_region_held3 (fun W=>W.cell? ⟨w.heap.size,0,none⟩=some (.int .i64 k)∧W.cell? ⟨w.heap.size,1,none⟩=some (.int .i64 e)∧W.cell? ⟨w.heap.size,2,none⟩=some (.int .i64 l)∧W.cell? ⟨b,off+j,none⟩=some (.int .i64 x)) (first | exact⟨q0,q1,q2,hck⟩ | exact⟨p0,p1,p2,pck⟩)
         ((go_at_call 52;refine(HC.out _ ((HE.out.below HNX.out).drewN _)).mono ?_;rintro r w2 ⟨rfl,hb2⟩;have p0:=(hb2.cell (p:=⟨w.heap.size,0,none⟩) hws).trans q0;have p1:=(hb2.cell (p:=⟨w.heap.size,1,none⟩) hws).trans q1;have p2:=(hb2.cell (p:=⟨w.heap.size,2,none⟩) hws).trans q2;have pck:=(hb2.cell (p:=⟨b,off+j,none⟩) hbr).trans hck;have HB2:=Hd hb2))
        have HB3:=Hd ((below_drewN HNX.out 1).trans (HB2.out.mono HNX.out.size));have pws:w.heap.size<w2.heap.size:=by have:=HB2.out.size;simp at this;omega
        go_wp2_with fail
        go_roundw
        case rel=>exact⟨j+1,by omega,by go_num,HN.out,HB3.out,pws,p0,p1,p2⟩
        case measure=>simp [intOf];omega
     · have HF:=Hd (HY.out j HT.out (by omega))
       go_wp2_with fail
       go_ret
       exact⟨ret_bool HF.out.symm,HNX.out⟩
  · have hne:((m:Int) != cellsN l)=true:=by simpa [bne] using hm
    have HF:=Hd (rightV_len (es:=es) (k:=k) (e:=e) (l:=l) (zs:=zs) (by omega));generalize cellsN l=q at hne HCE;clear hm
    go_enter Tryz.func20,Tryz.ntmps20
    go_wp2_with fail
    rw [← hen];refine(HRT.out _).mono ?_;rintro r w0 ⟨rfl,hb0⟩;have p0:=(hb0.cell (p:=⟨w.heap.size,0,none⟩) (by simp)).trans HC3.out.1;have p1:=(hb0.cell (p:=⟨w.heap.size,1,none⟩) (by simp)).trans HC3.out.2.1;have p2:=(hb0.cell (p:=⟨w.heap.size,2,none⟩) (by simp)).trans HC3.out.2.2;have HB0:=Hd (HB.out.trans (hb0.mono HB.out.size));clear hb0
    go_wp2_with fail
    refine(HCE.out _).mono ?_;rintro r w1 ⟨rfl,hb1⟩;have HB1:=Hd (HB0.out.trans (hb1.mono HB0.out.size));clear hb1
    go_wp2_with fail
    go_ret
    exact⟨ret_bool HF.out.symm,HB1.out⟩
end
end Go.Proofs.YtegjgiofmpolnaaGreat
