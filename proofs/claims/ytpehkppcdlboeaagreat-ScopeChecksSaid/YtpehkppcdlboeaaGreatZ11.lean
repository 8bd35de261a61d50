/- Parts of the proof: EyH. Conditions: each theorem's own. -/
import Derived.RangeFuncBox
import Derived.Test.YtpehkppcdlboeaaGreatZ10
namespace Go.Proofs.YtpehkppcdlboeaaGreat
set_option linter.unusedVariables false
set_option linter.unusedSimpArgs false
set_option maxRecDepth 100000
set_option maxHeartbeats 40000000
section
open Go.RowKit Go.Sort
theorem row_block(w:World) (n:Int) (s:ByteArray) (op:Int) (A:Option Addr) (len ca:Nat) (h:Bool) (lo hi:Int) (w1:World) (e:w.alloc (.cells (rowA 0 n s op A len ca h lo hi) 128)=w1):
 Below w.heap.size w w1∧w.heap.size<w1.heap.size∧w1.cell? ⟨w.heap.size,0,none⟩=some (.int .i64 0)∧w1.frozen? ⟨w.heap.size,0,none⟩=false ∧
  ∀ (k:Int) (w2:World),w1.setCell ⟨w.heap.size,0,none⟩ (.int .i64 k)=w2→Below w.heap.size w w2∧∀ w3,Below w2.heap.size w2 w3→∀ j,w3.cell? ⟨w.heap.size,j,none⟩=(rowA k n s op A len ca h lo hi)[j]?:=by
 subst e;have hn:(w.alloc (.cells (rowA 0 n s op A len ca h lo hi) 128)).heap[w.heap.size]?=some (Obj.cells (rowA 0 n s op A len ca h lo hi) 128):=World.alloc_heap_new _ _;have hb:Below w.heap.size w (w.alloc (.cells (rowA 0 n s op A len ca h lo hi) 128)):=(Below.refl _ _).alloc (Nat.le_refl _) _
 have hc:∀ j,(w.alloc (.cells (rowA 0 n s op A len ca h lo hi) 128)).cell? ⟨w.heap.size,j,none⟩=(rowA 0 n s op A len ca h lo hi)[j]?:=fun j=>by
  rw [World.cell?_alloc_new]
 refine⟨hb,by simp,by rw [hc];rfl,by simp only [World.frozen?,hn];rfl,fun k w2 e2=>?_⟩;subst e2;refine⟨hb.setCell (p:=⟨w.heap.size,0,none⟩) (Nat.le_refl _) _,fun w3 h3 j=>?_⟩;rw [h3.cell (p:=⟨w.heap.size,j,none⟩) (by have:=(grownBy_setCell' (w.alloc (.cells (rowA 0 n s op A len ca h lo hi) 128)) w.heap.size (.int .i64 k)).size;simp at this ⊢)]
 cases j with
 | zero=>exact World.cell?_setCell_same' _ _ _ (by rw [hc];rfl)
 | succ j=>
  rw [World.cell?_setCell_other _ _ _ _ (by intro e;injection e with _ e;exact absurd e (by simp)),hc];rfl
theorem namX_k(k n:Int) (s:ByteArray) (op:Int) (arms:List ByteArray):(namX k n s op arms).k=k:=rfl
theorem namX_n(k n:Int) (s:ByteArray) (op:Int) (arms:List ByteArray):(namX k n s op arms).n=n:=rfl
theorem namX_s(k n:Int) (s:ByteArray) (op:Int) (arms:List ByteArray):(namX k n s op arms).s=s:=rfl
theorem namX_op(k n:Int) (s:ByteArray) (op:Int) (arms:List ByteArray):(namX k n s op arms).op=op:=rfl
theorem namX_arms(k n:Int) (s:ByteArray) (op:Int) (arms:List ByteArray):(namX k n s op arms).arms=arms:=rfl
theorem namX_subs(k n:Int) (s:ByteArray) (op:Int) (arms:List ByteArray):(namX k n s op arms).subs=[]:=rfl
theorem rd_nam{w:World}{A:Option Addr}{arms:List ByteArray}(k n:Int) (s:ByteArray) (op:Int) (h:RdT w A arms.length arms):rdX w (namX k n s op arms) A none:=
 rdX_eq.2 ⟨h,RdX.nil_ _⟩
theorem exFits(x:Ex) (A:Option Addr) (ca:Nat) (B:Option Addr) (cb:Nat) (w:World) (hr:rdX w x A B) (hsh:ShortP x):
 Calls Tryz.prog 97 #[.agg (exA x A ca B cb)] w fun e w'=>e=.returned (.bool (partX x))∧Below w.heap.size w w':=by
 have HF:=Hd fun w1 h=>box_facts w x A ca B cb w1 h hr;have HAS:=Hd fun w1 (h:Below w.heap.size w w1)=>exAsked x A ca B cb w1 (hr.below h) hsh;have HFL:=Hd fun(n:Int) (s:ByteArray) (op:Int) (A':Option Addr) (arms:List ByteArray) (ca':Nat) (w1:World) (h:Below w.heap.size w w1) (hA:RdT w1 A' arms.length arms)=>exFields x A ca B cb (namX x.k n s op arms) A' ca' none 0 w1 (hr.below h) (rd_nam x.k n s op hA);have hmx:=hr.subs.max;clear hr;unfold exA at HF HAS HFL ⊢;simp only [namX_k,namX_n,namX_s,namX_op,namX_arms,namX_subs,List.length_nil] at HFL;generalize hres:partX x=res;have HRES:=Hd hres;clear hres;generalize hlen:x.subs.length=len at *;have HLEN:=Hd hlen;clear hlen;generalize x.arms.length=lar at *
 go_enter Tryz.func97,Tryz.ntmps97
 go_upto_region 1 with(fail)
 generalize hw1:w.alloc _=w1;obtain⟨hb1,hg,hr1,hcell⟩:=HF.out w1 hw1;have HB1:=Hd hb1;have HC:=Hd hcell;obtain⟨q0,q1,q2,q3,q4,q5⟩:=Sx (hcell w1 (Below.refl _ _));have HA1:=Hd (HAS.out w1 hb1);clear hcell hb1 hr1 hw1 HF HAS
 go_wp2_with fail
 refine HA1.out.mono ?_;rintro r w2 ⟨n,s,op,A',arms,ca',hh,lo,hi,rfl,hrt,hrow,hb2⟩;have HB2:=Hd (HB1.out.trans (hb2.mono HB1.out.size));have HW2:=Hd hb2;have HRT:=Hd hrt;have HS:=Hd (show res=(hh && fieldsB x (namX x.k n s op arms) && decide (lo≤(len:Int)) && decide ((len:Int)≤hi)) by rw [← HRES.out,← HLEN.out];exact hrow.symm);have HRB:=Hd fun w3 h=>row_block w2 n s op A' arms.length ca' hh lo hi w3 h;have HF1:=Hd fun w4 h hA=>HFL.out n s op A' arms ca' w4 h hA;clear q0 q1 q2 q3 q4 q5 hrt hrow hb2 HFL;unfold rowA at HRB ⊢;generalize fieldsB x (namX x.k n s op arms)=fb at *
 go_upto_region 2 with(fail)
 generalize hw3:w2.alloc _=w3;obtain⟨hb3,hg3,hc0,hf0,hset⟩:=HRB.out w3 hw3;have q0:=HC.out w3 (HW2.out.trans (hb3.mono HW2.out.size)) 0;have HSET:=Hd hset;have HB3:=Hd hb3;clear hset hb3 hw3 HRB
 go_upto_region 3 with(fail)
 generalize hw4:w3.setCell _ _=w4;obtain⟨hb4,hcell4⟩:=HSET.out _ w4 hw4;have HB4:=Hd (HB2.out.trans (hb4.mono HB2.out.size));have HW4:=Hd (HW2.out.trans (hb4.mono HW2.out.size));have HC4:=Hd hcell4;have HF4:=Hd (HF1.out w4 HB4.out (HRT.out.below hb4));obtain⟨q0,q1,q2,q3,q4,q5⟩:=Sx (HC.out w4 HW4.out);obtain⟨r0,r1,r2,r3,r4,r5⟩:=Sx (hcell4 w4 (Below.refl _ _));have r6:=hcell4 w4 (Below.refl _ _) 6;clear hcell4 hb4 hw4 HSET hc0 hf0 HF1
 cases hh with
 | false=>
  have HN:=Hd (show res=false by rw [HS.out];simp)
  go_wp2_with fail
  go_ret
  exact⟨ret_bool HN.out.symm,HB4.out⟩
 | true=>
  cases fb with
  | false=>
   have HN:=Hd (show res=false by rw [HS.out];simp)
   go_wp2_with fail
   refine HF4.out.mono ?_;rintro r w5 ⟨rfl,hb5⟩;have HB5:=Hd (HB4.out.trans (hb5.mono HB4.out.size));clear hb5 q0 q1 q2 q3 q4 q5 r0 r1 r2 r3 r4 r5 r6
   go_wp2_with fail
   go_ret
   exact⟨ret_bool HN.out.symm,HB5.out⟩
  | true=>
   cases hlo:decide (lo≤(len:Int)) with
   | false=>
    have HN:=Hd (show res=false by rw [HS.out,hlo];simp)
    go_wp2_with fail
    refine HF4.out.mono ?_;rintro r w5 ⟨rfl,hb5⟩;have HB5:=Hd (HB4.out.trans (hb5.mono HB4.out.size));have r7:=HC4.out w5 hb5 7;have r8:=HC4.out w5 hb5 8;clear hb5 q0 q1 q2 q3 q4 q5 r0 r1 r2 r3 r4 r5 r6
    go_wp2_with fail
    go_ret
    exact⟨ret_bool HN.out.symm,HB5.out⟩
   | true=>
    have HN:=Hd (show res=decide ((len:Int)≤hi) by rw [HS.out,hlo];simp)
    go_wp2_with fail
    refine HF4.out.mono ?_;rintro r w5 ⟨rfl,hb5⟩;have HB5:=Hd (HB4.out.trans (hb5.mono HB4.out.size));have r7:=HC4.out w5 hb5 7;have r8:=HC4.out w5 hb5 8;clear hb5 q0 q1 q2 q3 q4 q5 r0 r1 r2 r3 r4 r5 r6
    go_wp2_with fail
    go_ret
    exact⟨ret_bool HN.out.symm,HB5.out⟩
end
end Go.Proofs.YtpehkppcdlboeaaGreat
