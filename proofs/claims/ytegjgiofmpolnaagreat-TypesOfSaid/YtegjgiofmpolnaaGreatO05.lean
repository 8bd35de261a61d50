/- Parts of the proof: ExV, EyI, EyF, EyA, EyJ. Conditions: each theorem's own. -/
import Derived.RangeFuncNested
import Derived.RangeFuncBound
import Derived.RangeFuncCalls
import Derived.RangeFuncLeaves
import Derived.Shelf.Abstract
import Derived.Shelf.RegionOpen
import Derived.OwnWalkIn
import Derived.TacticsInMore
import Derived.LoopNIn
import Derived.LoopIn
import Derived.RangeFuncBox
import Derived.Test.YtegjgiofmpolnaaGreatO04
namespace Go.Proofs.YtegjgiofmpolnaaGreat
set_option linter.unusedVariables false
set_option linter.unusedSimpArgs false
set_option maxRecDepth 100000
set_option maxHeartbeats 40000000
section
open Go.RowKit Go.Sort
def ShortP(p:Ex):Prop:=p.s.size≤1000∧(∀ t∈p.arms,t.size≤9223372036854775807)∧p.arms.length≤100
theorem ShortP.of_few{p:Ex}(h:fewP p=true):ShortP p:=by
 simp only [fewP,Bool.and_eq_true,Bool.not_eq_true',decide_eq_false_iff_not,List.all_eq_true] at h;obtain⟨⟨h1,h2⟩,h3⟩:=h;refine⟨by omega,fun t ht=>?_,by omega⟩;have:=h3 t ht;simp only [fewA,Bool.not_eq_true',decide_eq_false_iff_not] at this;omega
def partX(x:Ex):Bool:=decide (1≤x.k) && decide (x.k≤17) && numbersX x && namedX x && armsX x && decide ((subsX x).1≤x.subs.length) && decide ((x.subs.length:Int)≤(subsX x).2) && ((x.k != 8) || constX (subX x 0))
def rightX(x:Ex):Bool:=!decide (60<sizeX x) && !decide (12<depthX x) && (partsX x).all partX
theorem numbers_13{x:Ex}(h:numbersX x=true) (hk:x.k=13):x.n=0∨x.n=1:=by
 unfold numbersX at h;rw [hk] at h
 simp at h
 exact h.2
theorem subs_8{x:Ex}(hk:x.k=8):subsX x=(2,2):=by
 unfold subsX;rw [hk];rfl
theorem refPart(x:Ex) (A:Option Addr) (ca:Nat) (B:Option Addr) (cb:Nat) (w:World) (hr:rdX w x A B) (hsh:ShortP x):
 Calls Tryz.prog 37 #[.agg (exA x A ca B cb)] w fun e w'=>e=.returned (.bool (partX x))∧Below w.heap.size w w':=by
 have HF:=Hd fun w1 h=>box_facts w x A ca B cb w1 h hr;have HS:=Hd (show partX x=(decide (1≤x.k) && decide (x.k≤17) && numbersX x && namedX x && armsX x && decide ((subsX x).1≤x.subs.length) && decide ((x.subs.length:Int)≤(subsX x).2) && ((x.k != 8) || constX (subX x 0))) from rfl);have HNU:=Hd fun w1 (h:Below w.heap.size w w1)=>refNumbers x A ca B cb w1 (hr.below h);have HNA:=Hd fun w1 (h:Below w.heap.size w w1)=>refNamed x A ca B cb w1 (hr.below h) hsh.1;have HAR:=Hd fun w1 (h:Below w.heap.size w w1)=>refArms x A ca B cb w1 (hr.below h) hsh.2.1 hsh.2.2;have HSU:=Hd fun w1 (h:Below w.heap.size w w1) (hn:x.k=13→x.n=0∨x.n=1)=>refSubs x A ca B cb w1 (hr.below h) hn;have HN13:=Hd (numbers_13 (x:=x));have HS8:=Hd (subs_8 (x:=x));have hmx:=hr.subs.max;clear hr hsh;unfold exA at HF HNU HNA HAR HSU ⊢;generalize partX x=res at *;generalize numbersX x=bnu at *;generalize namedX x=bna at *;generalize armsX x=bar at *;generalize hsu:subsX x=su at *;obtain⟨lo,hi⟩:=su;clear hsu;simp only at HS HSU HS8;generalize x.k=k at *;generalize x.n=m at *;generalize hlen:x.subs.length=n at *
 by_cases h1:k<1
 · have HN:=Hd (show res=false by rw [HS.out,decide_eq_false (show ¬ 1≤k by omega)];rfl)
   go_enter Tryz.func37,Tryz.ntmps37
   go_upto_region 1 with(fail)
   generalize hw1:w.alloc _=w1;obtain⟨hb1,hg,hr1,hcell⟩:=HF.out w1 hw1;have HB1:=Hd hb1;have HC:=Hd hcell;have HR1:=Hd hr1;have HW1:=Hd (Below.refl w1.heap.size w1);obtain⟨q0,q1,q2,q3,q4,q5⟩:=Sx (hcell w1 (Below.refl _ _));clear hcell hb1 hr1 hw1 HF
   go_wp2_with fail
   go_ret
   exact⟨ret_bool HN.out.symm,HB1.out⟩
 by_cases h17:17<k
 · have HN:=Hd (show res=false by rw [HS.out,decide_eq_false (show ¬ k≤17 by omega)];simp)
   go_enter Tryz.func37,Tryz.ntmps37
   go_upto_region 1 with(fail)
   generalize hw1:w.alloc _=w1;obtain⟨hb1,hg,hr1,hcell⟩:=HF.out w1 hw1;have HB1:=Hd hb1;have HC:=Hd hcell;have HR1:=Hd hr1;have HW1:=Hd (Below.refl w1.heap.size w1);obtain⟨q0,q1,q2,q3,q4,q5⟩:=Sx (hcell w1 (Below.refl _ _));clear hcell hb1 hr1 hw1 HF
   go_wp2_with fail
   go_ret
   exact⟨ret_bool HN.out.symm,HB1.out⟩
 rw [decide_eq_true (show 1≤k by omega),decide_eq_true (show k≤17 by omega)] at HS
 cases bnu with
 | false=>
  have HN:=Hd (show res=false by rw [HS.out];simp)
  go_enter Tryz.func37,Tryz.ntmps37
  go_upto_region 1 with(fail)
  generalize hw1:w.alloc _=w1;obtain⟨hb1,hg,hr1,hcell⟩:=HF.out w1 hw1;have HB1:=Hd hb1;have HC:=Hd hcell;have HR1:=Hd hr1;have HW1:=Hd (Below.refl w1.heap.size w1);obtain⟨q0,q1,q2,q3,q4,q5⟩:=Sx (hcell w1 (Below.refl _ _));clear hcell hb1 hr1 hw1 HF
  go_wp2_with fail
  refine(HNU.out w1 HB1.out).mono ?_;rintro r w2 ⟨rfl,hb⟩;have HB2:=Hd (HB1.out.trans (hb.mono HB1.out.size));have HW2:=Hd (HW1.out.trans (hb.mono HW1.out.size));clear hb q0 q1 q2 q3 q4 q5;obtain⟨q0,q1,q2,q3,q4,q5⟩:=Sx (HC.out w2 HW2.out)
  go_wp2_with fail
  go_ret
  exact⟨ret_bool HN.out.symm,HB2.out⟩
 | true=>
  cases bna with
  | false=>
   have HN:=Hd (show res=false by rw [HS.out];simp)
   go_enter Tryz.func37,Tryz.ntmps37
   go_upto_region 1 with(fail)
   generalize hw1:w.alloc _=w1;obtain⟨hb1,hg,hr1,hcell⟩:=HF.out w1 hw1;have HB1:=Hd hb1;have HC:=Hd hcell;have HR1:=Hd hr1;have HW1:=Hd (Below.refl w1.heap.size w1);obtain⟨q0,q1,q2,q3,q4,q5⟩:=Sx (hcell w1 (Below.refl _ _));clear hcell hb1 hr1 hw1 HF
   go_wp2_with fail
   refine(HNU.out w1 HB1.out).mono ?_;rintro r w2 ⟨rfl,hb⟩;have HB2:=Hd (HB1.out.trans (hb.mono HB1.out.size));have HW2:=Hd (HW1.out.trans (hb.mono HW1.out.size));clear hb q0 q1 q2 q3 q4 q5;obtain⟨q0,q1,q2,q3,q4,q5⟩:=Sx (HC.out w2 HW2.out)
   go_wp2_with fail
   refine(HNA.out w2 HB2.out).mono ?_;rintro r w3 ⟨rfl,hb⟩;have HB3:=Hd (HB2.out.trans (hb.mono HB2.out.size));have HW3:=Hd (HW2.out.trans (hb.mono HW2.out.size));clear hb q0 q1 q2 q3 q4 q5;obtain⟨q0,q1,q2,q3,q4,q5⟩:=Sx (HC.out w3 HW3.out)
   go_wp2_with fail
   go_ret
   exact⟨ret_bool HN.out.symm,HB3.out⟩
  | true=>
   cases bar with
   | false=>
    have HN:=Hd (show res=false by rw [HS.out];simp)
    go_enter Tryz.func37,Tryz.ntmps37
    go_upto_region 1 with(fail)
    generalize hw1:w.alloc _=w1;obtain⟨hb1,hg,hr1,hcell⟩:=HF.out w1 hw1;have HB1:=Hd hb1;have HC:=Hd hcell;have HR1:=Hd hr1;have HW1:=Hd (Below.refl w1.heap.size w1);obtain⟨q0,q1,q2,q3,q4,q5⟩:=Sx (hcell w1 (Below.refl _ _));clear hcell hb1 hr1 hw1 HF
    go_wp2_with fail
    refine(HNU.out w1 HB1.out).mono ?_;rintro r w2 ⟨rfl,hb⟩;have HB2:=Hd (HB1.out.trans (hb.mono HB1.out.size));have HW2:=Hd (HW1.out.trans (hb.mono HW1.out.size));clear hb q0 q1 q2 q3 q4 q5;obtain⟨q0,q1,q2,q3,q4,q5⟩:=Sx (HC.out w2 HW2.out)
    go_wp2_with fail
    refine(HNA.out w2 HB2.out).mono ?_;rintro r w3 ⟨rfl,hb⟩;have HB3:=Hd (HB2.out.trans (hb.mono HB2.out.size));have HW3:=Hd (HW2.out.trans (hb.mono HW2.out.size));clear hb q0 q1 q2 q3 q4 q5;obtain⟨q0,q1,q2,q3,q4,q5⟩:=Sx (HC.out w3 HW3.out)
    go_wp2_with fail
    refine(HAR.out w3 HB3.out).mono ?_;rintro r w4 ⟨rfl,hb⟩;have HB4:=Hd (HB3.out.trans (hb.mono HB3.out.size));have HW4:=Hd (HW3.out.trans (hb.mono HW3.out.size));clear hb q0 q1 q2 q3 q4 q5;obtain⟨q0,q1,q2,q3,q4,q5⟩:=Sx (HC.out w4 HW4.out)
    go_wp2_with fail
    go_ret
    exact⟨ret_bool HN.out.symm,HB4.out⟩
   | true=>
    by_cases hlo:(n:Int)<lo
    · have HN:=Hd (show res=false by rw [HS.out,decide_eq_false (show ¬ lo≤(n:Int) by omega)];simp)
      go_enter Tryz.func37,Tryz.ntmps37
      go_upto_region 1 with(fail)
      generalize hw1:w.alloc _=w1;obtain⟨hb1,hg,hr1,hcell⟩:=HF.out w1 hw1;have HB1:=Hd hb1;have HC:=Hd hcell;have HR1:=Hd hr1;have HW1:=Hd (Below.refl w1.heap.size w1);obtain⟨q0,q1,q2,q3,q4,q5⟩:=Sx (hcell w1 (Below.refl _ _));clear hcell hb1 hr1 hw1 HF
      go_wp2_with fail
      refine(HNU.out w1 HB1.out).mono ?_;rintro r w2 ⟨rfl,hb⟩;have HB2:=Hd (HB1.out.trans (hb.mono HB1.out.size));have HW2:=Hd (HW1.out.trans (hb.mono HW1.out.size));clear hb q0 q1 q2 q3 q4 q5;obtain⟨q0,q1,q2,q3,q4,q5⟩:=Sx (HC.out w2 HW2.out)
      go_wp2_with fail
      refine(HNA.out w2 HB2.out).mono ?_;rintro r w3 ⟨rfl,hb⟩;have HB3:=Hd (HB2.out.trans (hb.mono HB2.out.size));have HW3:=Hd (HW2.out.trans (hb.mono HW2.out.size));clear hb q0 q1 q2 q3 q4 q5;obtain⟨q0,q1,q2,q3,q4,q5⟩:=Sx (HC.out w3 HW3.out)
      go_wp2_with fail
      refine(HAR.out w3 HB3.out).mono ?_;rintro r w4 ⟨rfl,hb⟩;have HB4:=Hd (HB3.out.trans (hb.mono HB3.out.size));have HW4:=Hd (HW3.out.trans (hb.mono HW3.out.size));clear hb q0 q1 q2 q3 q4 q5;obtain⟨q0,q1,q2,q3,q4,q5⟩:=Sx (HC.out w4 HW4.out)
      go_wp2_with fail
      refine(HSU.out w4 HB4.out (HN13.out (by first | trivial | rfl))).mono ?_;rintro r w5 ⟨rfl,hb⟩;have HB5:=Hd (HB4.out.trans (hb.mono HB4.out.size));have HW5:=Hd (HW4.out.trans (hb.mono HW4.out.size));clear hb q0 q1 q2 q3 q4 q5;obtain⟨q0,q1,q2,q3,q4,q5⟩:=Sx (HC.out w5 HW5.out)
      go_wp2_with fail
      go_ret
      exact⟨ret_bool HN.out.symm,HB5.out⟩
    by_cases hhi:hi<(n:Int)
    · have HN:=Hd (show res=false by rw [HS.out,decide_eq_false (show ¬ (n:Int)≤hi by omega)];simp)
      go_enter Tryz.func37,Tryz.ntmps37
      go_upto_region 1 with(fail)
      generalize hw1:w.alloc _=w1;obtain⟨hb1,hg,hr1,hcell⟩:=HF.out w1 hw1;have HB1:=Hd hb1;have HC:=Hd hcell;have HR1:=Hd hr1;have HW1:=Hd (Below.refl w1.heap.size w1);obtain⟨q0,q1,q2,q3,q4,q5⟩:=Sx (hcell w1 (Below.refl _ _));clear hcell hb1 hr1 hw1 HF
      go_wp2_with fail
      refine(HNU.out w1 HB1.out).mono ?_;rintro r w2 ⟨rfl,hb⟩;have HB2:=Hd (HB1.out.trans (hb.mono HB1.out.size));have HW2:=Hd (HW1.out.trans (hb.mono HW1.out.size));clear hb q0 q1 q2 q3 q4 q5;obtain⟨q0,q1,q2,q3,q4,q5⟩:=Sx (HC.out w2 HW2.out)
      go_wp2_with fail
      refine(HNA.out w2 HB2.out).mono ?_;rintro r w3 ⟨rfl,hb⟩;have HB3:=Hd (HB2.out.trans (hb.mono HB2.out.size));have HW3:=Hd (HW2.out.trans (hb.mono HW2.out.size));clear hb q0 q1 q2 q3 q4 q5;obtain⟨q0,q1,q2,q3,q4,q5⟩:=Sx (HC.out w3 HW3.out)
      go_wp2_with fail
      refine(HAR.out w3 HB3.out).mono ?_;rintro r w4 ⟨rfl,hb⟩;have HB4:=Hd (HB3.out.trans (hb.mono HB3.out.size));have HW4:=Hd (HW3.out.trans (hb.mono HW3.out.size));clear hb q0 q1 q2 q3 q4 q5;obtain⟨q0,q1,q2,q3,q4,q5⟩:=Sx (HC.out w4 HW4.out)
      go_wp2_with fail
      refine(HSU.out w4 HB4.out (HN13.out (by first | trivial | rfl))).mono ?_;rintro r w5 ⟨rfl,hb⟩;have HB5:=Hd (HB4.out.trans (hb.mono HB4.out.size));have HW5:=Hd (HW4.out.trans (hb.mono HW4.out.size));clear hb q0 q1 q2 q3 q4 q5;obtain⟨q0,q1,q2,q3,q4,q5⟩:=Sx (HC.out w5 HW5.out)
      go_wp2_with fail
      go_ret
      exact⟨ret_bool HN.out.symm,HB5.out⟩
    rw [decide_eq_true (show lo≤(n:Int) by omega),decide_eq_true (show(n:Int)≤hi by omega)] at HS
    by_cases h8:k=8
    · have h88:=HS8.out h8;injection h88 with hlo2 hhi2;subst hlo2 hhi2 h8;have HN:=Hd (show res=constX (subX x 0) by rw [HS.out];simp)
      go_enter Tryz.func37,Tryz.ntmps37
      go_upto_region 1 with(fail)
      generalize hw1:w.alloc _=w1;obtain⟨hb1,hg,hr1,hcell⟩:=HF.out w1 hw1;have HB1:=Hd hb1;have HC:=Hd hcell;have HR1:=Hd hr1;have HW1:=Hd (Below.refl w1.heap.size w1);obtain⟨q0,q1,q2,q3,q4,q5⟩:=Sx (hcell w1 (Below.refl _ _));clear hcell hb1 hr1 hw1 HF
      go_wp2_with fail
      refine(HNU.out w1 HB1.out).mono ?_;rintro r w2 ⟨rfl,hb⟩;have HB2:=Hd (HB1.out.trans (hb.mono HB1.out.size));have HW2:=Hd (HW1.out.trans (hb.mono HW1.out.size));clear hb q0 q1 q2 q3 q4 q5;obtain⟨q0,q1,q2,q3,q4,q5⟩:=Sx (HC.out w2 HW2.out)
      go_wp2_with fail
      refine(HNA.out w2 HB2.out).mono ?_;rintro r w3 ⟨rfl,hb⟩;have HB3:=Hd (HB2.out.trans (hb.mono HB2.out.size));have HW3:=Hd (HW2.out.trans (hb.mono HW2.out.size));clear hb q0 q1 q2 q3 q4 q5;obtain⟨q0,q1,q2,q3,q4,q5⟩:=Sx (HC.out w3 HW3.out)
      go_wp2_with fail
      refine(HAR.out w3 HB3.out).mono ?_;rintro r w4 ⟨rfl,hb⟩;have HB4:=Hd (HB3.out.trans (hb.mono HB3.out.size));have HW4:=Hd (HW3.out.trans (hb.mono HW3.out.size));clear hb q0 q1 q2 q3 q4 q5;obtain⟨q0,q1,q2,q3,q4,q5⟩:=Sx (HC.out w4 HW4.out)
      go_wp2_with fail
      refine(HSU.out w4 HB4.out (HN13.out (by first | trivial | rfl))).mono ?_;rintro r w5 ⟨rfl,hb⟩;have HB5:=Hd (HB4.out.trans (hb.mono HB4.out.size));have HW5:=Hd (HW4.out.trans (hb.mono HW4.out.size));clear hb q0 q1 q2 q3 q4 q5;obtain⟨q0,q1,q2,q3,q4,q5⟩:=Sx (HC.out w5 HW5.out);obtain⟨b,off,rfl,hb,hat⟩:=(HR1.out.below HW5.out).sub (i:=0) (by omega);obtain⟨A',ca',B',cb',hrg,hrd⟩:=hat 0 (by omega);rw [Nat.zero_mul,Nat.add_zero] at hrg;obtain⟨c0,c1,c2,c3,c4,c5⟩:=rangeAt_six hrg;have HCO:=Hd (refConst (subX x 0) A' ca' B' cb' w5 hrd);clear hat hrg hrd;generalize constX (subX x 0)=bco at *
      go_wp2_with fail
      refine HCO.out.mono ?_;rintro r w6 ⟨rfl,hb⟩;have HB6:=Hd (HB5.out.trans (hb.mono HB5.out.size));clear hb
      go_wp2_with fail
      go_ret
      exact⟨ret_bool HN.out.symm,HB6.out⟩
    have e8:(k==8)=false:=by simpa using h8
    have n8:(k != 8)=true:=by rw [bne,e8];rfl
    have HN:=Hd (show res=true by rw [HS.out,n8];rfl)
    go_enter Tryz.func37,Tryz.ntmps37
    go_upto_region 1 with(fail)
    generalize hw1:w.alloc _=w1;obtain⟨hb1,hg,hr1,hcell⟩:=HF.out w1 hw1;have HB1:=Hd hb1;have HC:=Hd hcell;have HR1:=Hd hr1;have HW1:=Hd (Below.refl w1.heap.size w1);obtain⟨q0,q1,q2,q3,q4,q5⟩:=Sx (hcell w1 (Below.refl _ _));clear hcell hb1 hr1 hw1 HF
    go_wp2_with fail
    refine(HNU.out w1 HB1.out).mono ?_;rintro r w2 ⟨rfl,hb⟩;have HB2:=Hd (HB1.out.trans (hb.mono HB1.out.size));have HW2:=Hd (HW1.out.trans (hb.mono HW1.out.size));clear hb q0 q1 q2 q3 q4 q5;obtain⟨q0,q1,q2,q3,q4,q5⟩:=Sx (HC.out w2 HW2.out)
    go_wp2_with fail
    refine(HNA.out w2 HB2.out).mono ?_;rintro r w3 ⟨rfl,hb⟩;have HB3:=Hd (HB2.out.trans (hb.mono HB2.out.size));have HW3:=Hd (HW2.out.trans (hb.mono HW2.out.size));clear hb q0 q1 q2 q3 q4 q5;obtain⟨q0,q1,q2,q3,q4,q5⟩:=Sx (HC.out w3 HW3.out)
    go_wp2_with fail
    refine(HAR.out w3 HB3.out).mono ?_;rintro r w4 ⟨rfl,hb⟩;have HB4:=Hd (HB3.out.trans (hb.mono HB3.out.size));have HW4:=Hd (HW3.out.trans (hb.mono HW3.out.size));clear hb q0 q1 q2 q3 q4 q5;obtain⟨q0,q1,q2,q3,q4,q5⟩:=Sx (HC.out w4 HW4.out)
    go_wp2_with fail
    refine(HSU.out w4 HB4.out (HN13.out (by first | trivial | rfl))).mono ?_;rintro r w5 ⟨rfl,hb⟩;have HB5:=Hd (HB4.out.trans (hb.mono HB4.out.size));have HW5:=Hd (HW4.out.trans (hb.mono HW4.out.size));clear hb q0 q1 q2 q3 q4 q5;obtain⟨q0,q1,q2,q3,q4,q5⟩:=Sx (HC.out w5 HW5.out)
    go_wp2_with fail
    go_ret
    exact⟨ret_bool HN.out.symm,HB5.out⟩
theorem refRight(x:Ex) (A:Option Addr) (ca:Nat) (B:Option Addr) (cb:Nat) (w:World) (hr:rdX w x A B) (hs:sizeX x≤1000000) (hsh:∀ p∈partsX x,ShortP p):
 Calls Tryz.prog 11 #[.agg (exA x A ca B cb)] w fun e w'=>e=.returned (.bool (rightX x))∧Below w.heap.size w w':=by
 have HF:=Hd fun w1 h=>box_facts w x A ca B cb w1 h hr;have HS:=Hd (show rightX x=(!decide (60<sizeX x) && !decide (12<depthX x) && (partsX x).all partX) from rfl);have HSZ:=Hd fun w1 (h:Below w.heap.size w w1)=>refSize x A ca B cb w1 (hr.below h) hs;have HDP:=Hd fun w1 (h:Below w.heap.size w w1)=>refDepth x A ca B cb w1 (hr.below h) hs;have HPT:=Hd fun w1 (h:Below w.heap.size w w1)=>refParts x A ca B cb w w1 hr h hs;have HLN:=Hd (partsX_len x);have HSH:=Hd fun i (hi:i<(partsX x).length)=>hsh ((partsX x)[i]?.getD default) (by rw [List.getElem?_eq_getElem hi];exact List.getElem_mem _);have hds:=depth_size x;have hsp:=size_pos x;clear hr hsh;unfold exA at HF HSZ HDP HPT ⊢;generalize rightX x=res at *;have HPE:Hid (∃ l,l=partsX x):=Hd ⟨_,rfl⟩
 by_cases h60:60<sizeX x
 · have HN:=Hd (show res=false by rw [HS.out];simp [h60]);generalize sizeX x=n at *
   go_enter Tryz.func11,Tryz.ntmps11
   go_upto_region 1 with(fail)
   generalize hw1:w.alloc _=w1;obtain⟨hb1,hg,hr1,hcell⟩:=HF.out w1 hw1;have HB1:=Hd hb1;have HC:=Hd hcell;have HR1:=Hd hr1;have HW1:=Hd (Below.refl w1.heap.size w1);obtain⟨q0,q1,q2,q3,q4,q5⟩:=Sx (hcell w1 (Below.refl _ _));clear hcell hb1 hr1 hw1 HF
   go_wp2_with fail
   refine(HSZ.out w1 HB1.out).mono ?_;rintro r w2 ⟨rfl,hb⟩;have HB2:=Hd (HB1.out.trans (hb.mono HB1.out.size));clear hb
   go_wp2_with fail
   go_ret
   exact⟨ret_bool HN.out.symm,HB2.out⟩
 by_cases h12:12<depthX x
 · have HN:=Hd (show res=false by rw [HS.out];simp [h12]);generalize sizeX x=n at *;generalize depthX x=d at *
   go_enter Tryz.func11,Tryz.ntmps11
   go_upto_region 1 with(fail)
   generalize hw1:w.alloc _=w1;obtain⟨hb1,hg,hr1,hcell⟩:=HF.out w1 hw1;have HB1:=Hd hb1;have HC:=Hd hcell;have HR1:=Hd hr1;have HW1:=Hd (Below.refl w1.heap.size w1);obtain⟨q0,q1,q2,q3,q4,q5⟩:=Sx (hcell w1 (Below.refl _ _));clear hcell hb1 hr1 hw1 HF
   go_wp2_with fail
   refine(HSZ.out w1 HB1.out).mono ?_;rintro r w2 ⟨rfl,hb⟩;have HB2:=Hd (HB1.out.trans (hb.mono HB1.out.size));have HW2:=Hd (HW1.out.trans (hb.mono HW1.out.size));clear hb q0 q1 q2 q3 q4 q5;obtain⟨q0,q1,q2,q3,q4,q5⟩:=Sx (HC.out w2 HW2.out)
   go_wp2_with fail
   refine(HDP.out w2 HB2.out).mono ?_;rintro r w3 ⟨rfl,hb⟩;have HB3:=Hd (HB2.out.trans (hb.mono HB2.out.size));have HW3:=Hd (HW2.out.trans (hb.mono HW2.out.size));clear hb q0 q1 q2 q3 q4 q5;obtain⟨q0,q1,q2,q3,q4,q5⟩:=Sx (HC.out w3 HW3.out)
   go_wp2_with fail
   go_ret
   exact⟨ret_bool HN.out.symm,HB3.out⟩
 have HS2:=Hd (show res=(partsX x).all partX by rw [HS.out];simp [h60,h12]);generalize depthX x=d at *
 go_enter Tryz.func11,Tryz.ntmps11
 go_upto_region 1 with(fail)
 generalize hw1:w.alloc _=w1;obtain⟨hb1,hg,hr1,hcell⟩:=HF.out w1 hw1;have HB1:=Hd hb1;have HC:=Hd hcell;have HR1:=Hd hr1;have HW1:=Hd (Below.refl w1.heap.size w1);obtain⟨q0,q1,q2,q3,q4,q5⟩:=Sx (hcell w1 (Below.refl _ _));clear hcell hb1 hr1 hw1 HF
 go_wp2_with fail
 refine(HSZ.out w1 HB1.out).mono ?_;rintro r w2 ⟨rfl,hb⟩;have HB2:=Hd (HB1.out.trans (hb.mono HB1.out.size));have HW2:=Hd (HW1.out.trans (hb.mono HW1.out.size));clear hb q0 q1 q2 q3 q4 q5;obtain⟨q0,q1,q2,q3,q4,q5⟩:=Sx (HC.out w2 HW2.out)
 go_wp2_with fail
 refine(HDP.out w2 HB2.out).mono ?_;rintro r w3 ⟨rfl,hb⟩;have HB3:=Hd (HB2.out.trans (hb.mono HB2.out.size));have HW3:=Hd (HW2.out.trans (hb.mono HW2.out.size));clear hb q0 q1 q2 q3 q4 q5;obtain⟨q0,q1,q2,q3,q4,q5⟩:=Sx (HC.out w3 HW3.out)
 go_wp2_with fail
 refine(HPT.out w3 HB3.out).mono ?_;rintro r w4 ⟨A2,c2,cs2,rfl,hcel,hfl2,hb,_⟩;have HB4:=Hd (HB3.out.trans (hb.mono HB3.out.size));have HRX:=Hd (hcel.rd hfl2 HB4.out);clear hcel hfl2 hb q0 q1 q2 q3 q4 q5 HPT HSZ HDP HS HPE;generalize partsX x=l at *;generalize sizeX x=n at *
 go_wp2_with fail
 go_loopw [4] (fun i wr=>∃ k:Nat,k≤n∧i=.int .i64 k∧(l.take k).all partX=true∧Below w4.heap.size w4 wr) (fun i _=>n-(intOf i).toNat)
 case atStart=>exact⟨0,Nat.zero_le _,rfl,by simp,Below.refl _ _⟩
 case round=>
  obtain⟨k,hk,rfl,hall,hbw⟩:=hrel;have HA:=Hd hall;have HBW:=Hd hbw;clear hall
  by_cases hlt:k<n
  · obtain⟨b,off,rfl,hb,hat⟩:=(HRX.out.below hbw).at_ hlt;obtain⟨A',ca',B',cb',hrg,hrd⟩:=hat k hlt;obtain⟨c0,c1,c2',c3,c4,c5⟩:=rangeAt_six hrg;have HK:=Hd (show k<l.length by rw [HLN.out];exact hlt);have HSK:=Hd (HSH.out k HK.out);have HFL:=Hd fun h=>all_false (l:=l) (f:=partX) (i:=k) HK.out h;have HTS:=Hd fun h=>all_take_succ (l:=l) (f:=partX) (k:=k) HK.out HA.out h;clear hat hrg hbw;generalize l[k]?.getD default=p at *;have HP:=Hd (refPart p A' ca' B' cb' wr hrd HSK.out);unfold exA at HP;clear hrd
    cases hp:partX p with
    | false=>
     rw [hp] at HP;have HN:=Hd (show res=false by rw [HS2.out];exact HFL.out hp)
     go_wp2_with fail
     refine HP.out.mono ?_;rintro r w5 ⟨rfl,hb5⟩;have HB5:=Hd (HBW.out.trans (hb5.mono HBW.out.size));clear hb5
     go_wp2_with fail
     go_ret
     exact⟨ret_bool HN.out.symm,HB4.out.trans (HB5.out.mono HB4.out.size)⟩
    | true=>
     rw [hp] at HP;have HN:=Hd (HTS.out hp)
     go_wp2_with fail
     refine HP.out.mono ?_;rintro r w5 ⟨rfl,hb5⟩;have HB5:=Hd (HBW.out.trans (hb5.mono HBW.out.size));clear hb5
     go_wp2_with fail
     go_roundw
     case rel=>exact⟨k+1,by omega,by go_num,HN.out,HB5.out⟩
     case measure=>simp [intOf];omega
  · have HN:=Hd (show res=true by rw [HS2.out];exact all_take_end HA.out (by rw [HLN.out];omega))
    go_wp2_with fail
    go_ret
    exact⟨ret_bool HN.out.symm,HB4.out.trans (HBW.out.mono HB4.out.size)⟩
end
section
open Go.RowKit Go.Shelf
attribute [local go_sem] Oper.semAt_some
theorem roundAnyDepth{F:Fence}(hd:F.depth=none){m m':Nat}{P:Program}{l:Nat}{f:FuncId}{tmps:Array Value}{assign body:Code}{w:World}{R:Ending→World→Prop}
 (h:RoundIn F m P l f tmps assign body w R):RoundIn F m' P l f tmps assign body w R:=⟨h.1,fun c cs _=>h.2 c cs (fun d h=>by rw [hd] at h;cases h)⟩
theorem yieldAnyDepth{F:Fence}(hd:F.depth=none){m:Nat}(m':Nat){P:Program}{l:Nat}{args:Array Value}{W:World}{R:Ending→World→Prop}(h:YieldAt F m P l args W R):YieldAt F m' P l args W R:=by
 obtain⟨fn,tmps,assign,body,hy,hR⟩:=h;exact⟨fn,tmps,assign,body,hy,roundAnyDepth hd hR⟩
theorem grownBy_of_below'{W W':World}(h:Below W.heap.size W W'):W.grownBy W' none:=⟨h.os,h.tape,h.output,h.size,fun i hi _=>h.block i hi⟩
structure Pt where
 x:Ex
 A:Option Addr
 ca:Nat
 B:Option Addr
 cb:Nat
def encP(p:Pt):Array Value:=#[.agg (exA p.x p.A p.ca p.B p.cb)]
abbrev PtIn (w0:World) (e:Ex):={ p:Pt // rdX w0 p.x p.A p.B∧p.x∈partsX e }
def exs{w0:World}{e:Ex}(l:List (PtIn w0 e)):List Ex:=l.map fun p=>p.1.x
theorem exs_app{w0:World}{e:Ex}(a b:List (PtIn w0 e)):exs (a++b)=exs a++exs b:=by simp [exs]
theorem exs_len{w0:World}{e:Ex}(a:List (PtIn w0 e)):(exs a).length=a.length:=by simp [exs]
def KeepsE(W W':World):Prop:=∀ (k:Nat) (cs:Array Value) (h:Nat × Nat),W.heap[k]?=some (Obj.cells cs 35 h)→W'.heap[k]?=some (Obj.cells cs 35 h)
theorem KeepsE.refl(W:World):KeepsE W W:=fun _ _ _ h=>h
theorem KeepsE.trans{A B C:World}(h:KeepsE A B) (k:KeepsE B C):KeepsE A C:=fun i cs t e=>k i cs t (h i cs t e)
theorem memPartssI:∀ {l:List Ex}{i:Nat}{q:Ex},i<l.length→q∈partsX (l[i]?.getD default)→q∈partssX l
 | [],i,q,h,_=>absurd h (by simp)
 | x::l,0,q,_,hq=>by
  simp only [List.getElem?_cons_zero,Option.getD_some] at hq;simp only [partssX];exact List.mem_append_left _ hq
 | x::l,i+1,q,h,hq=>by
  simp only [List.getElem?_cons_succ] at hq;simp only [partssX];exact List.mem_append_right _ (memPartssI (by simpa using h) hq)
theorem KeepsE.of_below{W W':World}(h:Below W.heap.size W W'):KeepsE W W':=fun k cs t e=>(h.block k (Array.getElem?_eq_some_iff.1 e).1).trans e
theorem KeepsE.cell{W W':World}(h:KeepsE W W'){k:Nat}{cs:Array Value}(e:W.heap[k]?=some (Obj.cells cs 35)) (j:Nat):W'.cell? ⟨k,j,none⟩=W.cell? ⟨k,j,none⟩ :=
 World.cell?_of_block (a:=⟨k,j,none⟩) ((h k cs _ e).trans e.symm)
def KpE(n:Nat) (W W':World):Prop:=Below n W W'∧KeepsE W W'
theorem KpE.refl(n:Nat) (W:World):KpE n W W:=⟨Below.refl _ _,KeepsE.refl _⟩
theorem KpE.trans{n:Nat}{A B C:World}(h:KpE n A B) (k:KpE n B C):KpE n A C:=⟨h.1.trans k.1,h.2.trans k.2⟩
theorem KpE.of_below{n:Nat}{W W':World}(h:Below W.heap.size W W') (hn:n≤W.heap.size):KpE n W W':=⟨h.mono hn,KeepsE.of_below h⟩
theorem kpE_b{n₀:Nat}{w:World}(hn:n₀≤w.heap.size) (W:World) (l:Nat) (o o':Obj) (hl:w.heap.size≤l) (h:W.heap[l]?=some o) (hc:o.isCells=false) (hw:o.isWalk=false):KpE n₀ W (W.putObj l o'):=
 ⟨belowK_b hn W l o o' hl h hc hw,fun k cs t e=>by
  refine(World.putObj_heap_other (fun e'=>?_)).trans e;subst e';rw [h] at e;injection e with e;subst e
  cases hc⟩
theorem each_in(l N D:Nat) (e0:Ex) (w0:World) (J Jx:List (PtIn w0 e0)→World→Prop) (hJ:AbidesFrom D J)
 (hY:∀ m pre (x:PtIn w0 e0) W,J pre W→pre.length<N→YieldAt Fence.wide m Tryz.prog l (encP x.1) W fun e W' =>
  (e=.returned (.bool true)∧J (pre++[x]) W'∧KpE w0.heap.size W W')∨(e=.returned (.bool false)∧Jx (pre++[x]) W')):
 ∀ (x:Ex) (A:Option Addr) (ca:Nat) (B:Option Addr) (cb n:Nat) (pre:List (PtIn w0 e0)) (W:World),rdX w0 x A B→(∀ q∈partsX x,q∈partsX e0)→Below w0.heap.size w0 W→J pre W→pre.length+sizeX x≤N →
  CallsIn Fence.wide n Tryz.prog 112 #[.agg (exA x A ca B cb),.func (.yield l) #[] #[]] W fun e W' =>
   (e=.returned (.bool true)∧∃ ps:List (PtIn w0 e0),exs ps=partsX x∧J (pre++ps) W'∧KpE w0.heap.size W W')∨(e=.returned (.bool false)∧∃ ps:List (PtIn w0 e0),exs ps <+: partsX x∧Jx (pre++ps) W'):=by
 refine size_ind fun x ih A ca B cb n pre W hr hin hb0 hJ0 hN=>?_;have hJB:∀ pre W W',Below W.heap.size W W'→J pre W→J pre W':=fun pre W W' h hj=>hJ _ _ _ none hj (grownBy_of_below' h) (fun r e=>by cases e);have hsx:=sizeX_eq x;have hmx:=hr.subs.max;have hpx:=partsX_eq x;have HIH:=Hd ih;have HIN:=Hd hin;have HB0:=Hd hb0;have HR0:=Hd hr;have HJB:=Hd hJB;have HPX:=Hd hpx;have hmem:x∈partsX e0:=hin x (by rw [hpx];exact List.mem_cons_self);have HSUBS:=Hd fun k (hk:k<x.subs.length) (q:Ex) (hq:q∈partsX (subX x k))=>hin q (by rw [hpx];exact List.mem_cons_of_mem _ (memPartssI hk hq));have HSN:=Hd fun i (hi:i<x.subs.length)=>sizes_snoc hi;have HPN:=Hd fun i (hi:i<x.subs.length)=>partss_snoc hi;have HLE:=Hd fun i=>sizes_take x.subs i;have HTL:=Hd (List.take_length (l:=x.subs));have HTP:=Hd fun k=>(show partssX (x.subs.take k) <+: partssX x.subs from⟨partssX (x.subs.drop k),by rw [← partssX_app,List.take_append_drop]⟩);have hbA:Below W.heap.size W (W.alloc (.cells (exA x A ca B cb) 35)):=(Below.refl _ _).alloc (Nat.le_refl _) _;have hblk:(W.alloc (.cells (exA x A ca B cb) 35)).heap[W.heap.size]?=some (.cells (exA x A ca B cb) 35):=World.alloc_heap_new _ _;obtain⟨xp,hxp⟩:∃ xp:PtIn w0 e0,xp.1=⟨x,A,ca,B,cb⟩:=⟨⟨_,hr,hmem⟩,rfl⟩;have hxx:exs [xp]=[x]:=by simp [exs,hxp]
 have HXX:=Hd hxx;obtain⟨fn,tmps,assign,body,hy,hR⟩:=hY (n-1) pre xp _ (hJB _ _ _ hbA hJ0) (by have:=size_pos x;omega);obtain⟨_,_,_,hcell⟩:=box_facts W x A ca B cb _ rfl (hr.below hb0);obtain⟨q0,q1,q2,q3,q4,q5⟩:=Sx (hcell _ (Below.refl _ _));have HBK:=Hd hblk;have HBA:=Hd hbA;have HJ0:=Hd hJ0;clear hJ0 hr hin hb0 ih hpx hmem hcell hblk hbA hJB hY hxx;rw [hxp] at hy
 dsimp only [encP] at hy
 unfold exA at hy q0 q1 q2 q3 q4 q5 HBK HBA HIH;have HR:=Hd hR;clear hR;unfold exA at HR ⊢;clear hxp;generalize hlen:x.subs.length=len at *;refine callsIn_of_wp Tryz.func112 rfl trivial ?_ rfl;simp only [Tryz.ntmps112,List.size_toArray,List.length_cons,List.length_nil,Nat.reduceAdd,Nat.reduceSub,Array.replicate_succ,Array.replicate_zero,List.push_toArray,List.append_toArray,List.nil_append,List.cons_append]
 gi_wp2_with fail
 refine⟨fun h=>(by cases h),HR.out.mono ?_⟩;rintro e W3 (⟨rfl,hJ3,hk3⟩|⟨rfl,hJx3⟩)
 · have HJ3:=Hd hJ3;have HK3:=Hd (show KpE w0.heap.size W W3 from⟨(HBA.out.mono HB0.out.size).trans hk3.1,(KeepsE.of_below HBA.out).trans hk3.2⟩);have r5:=(hk3.2.cell HBK.out 5).trans q5;clear q0 q1 q2 q3 q4 q5 hJ3 hk3 hy
   gi_wp2_with fail
   gi_loopw [14] (fun i wr=>∃ (k:Nat) (ps:List (PtIn w0 e0)),k≤len∧i=.int .i64 k∧exs ps=x::partssX (x.subs.take k)∧J (pre++ps) wr∧KpE w0.heap.size W wr) (fun i _=>len-(intOf i).toNat)
   case atStart=>exact⟨0,[xp],Nat.zero_le _,rfl,by rw [HXX.out];simp [partssX],HJ3.out,HK3.out⟩
   case round=>
    obtain⟨k,ps,hk,rfl,hps,hJk,hkp⟩:=hrel;have HPS:=Hd hps;have HJK:=Hd hJk;have HKP:=Hd hkp;have HBW:=Hd (HB0.out.trans hkp.1);have hpl:ps.length=1+sizesX (x.subs.take k):=by rw [← exs_len,hps,List.length_cons,partssX_len];omega
    have hle:=HLE.out k;clear hps hJk hkp
    by_cases hlt:k<len
    · obtain⟨b,off,rfl,hb,hat⟩:=HR0.out.sub (i:=k) (by omega);obtain⟨A',ca',B',cb',hrg,hrd⟩:=hat k (by omega);obtain⟨c0,c1,c2,c3,c4,c5⟩:=rangeAt_six (rangeAt_keep hrg hb fun p hp=>HBW.out.cell hp);obtain⟨hbE,_,_,hcE⟩:=box_facts wr (subX x k) A' ca' B' cb' _ rfl (hrd.below HBW.out);have HBE:=Hd hbE;obtain⟨d0,d1,d2,d3,d4,d5⟩:=Sx (hcE _ (Below.refl _ _));have hsn:=HSN.out k (by omega);have hle2:=HLE.out (k+1);have HPNK:=Hd (HPN.out k (by omega));have hBWE:=HBW.out.trans (hbE.mono HBW.out.size);have HCL:=Hd (HIH.out k (by omega) A' ca' B' cb' (n-1) (pre++ps) _ hrd (HSUBS.out k (by omega)) hBWE (HJB.out _ _ _ hbE HJK.out) (by simp;omega));clear hat hrg hrd hbE hcE hBWE;unfold exA at HCL HBE d0 d1 d2 d3 d4 d5;generalize subX x k=y at *
      gi_wp2_with fail
      refine⟨trivial,fun h=>(by cases h),(HCL.out).mono ?_⟩;rintro e W4 (⟨rfl,qs,hqs,hJ4,hk4⟩|⟨rfl,qs,hqs,hJx4⟩)
      · have HQS:=Hd hqs;have HJ4:=Hd hJ4;have HK4:=Hd (show KpE w0.heap.size W W4 from HKP.out.trans (((KpE.of_below HBE.out HBW.out.size)).trans hk4));clear hqs hJ4 hk4
        gi_wp2_with fail
        go_roundw
        case rel=>exact⟨k+1,ps++qs,by omega,by go_num,by rw [exs_app,HPS.out,HQS.out,HPNK.out];rfl,by rw [← List.append_assoc];exact HJ4.out,HK4.out⟩
        case measure=>simp [intOf];omega
      · have HQS:=Hd hqs;have HJ4:=Hd hJx4;have HTK:=Hd (HTP.out (k+1));clear hqs hJx4
        gi_wp2_with fail
        go_ret
        refine .inr ⟨rfl,ps++qs,?_,by rw [← List.append_assoc];exact HJ4.out⟩;rw [exs_app,HPS.out,HPX.out,List.cons_append];refine(List.prefix_cons_inj _).2 (List.IsPrefix.trans ?_ HTK.out);rw [HPNK.out];exact(List.prefix_append_right_inj _).2 HQS.out
    · have hkl:k=len:=by omega
      subst hkl;have HE:=Hd (hlen ▸ HTL.out:x.subs.take k=x.subs)
      gi_wp2_with fail
      go_ret
      refine .inl ⟨rfl,ps,?_,HJK.out,HKP.out⟩;rw [HPS.out,HE.out,HPX.out]
 · have HJ3:=Hd hJx3;clear hJx3
   gi_wp2_with fail
   go_ret
   refine .inr ⟨rfl,[xp],?_,HJ3.out⟩;rw [HXX.out,HPX.out];exact⟨_,rfl⟩
theorem each_stops(n Bs:Nat) (x:Ex) (A:Option Addr) (ca:Nat) (B:Option Addr) (cb:Nat) (w0 w:World) (hr:rdX w0 x A B) (hb:Below w0.heap.size w0 w) (hbx:w.heap[Bs]?=some (Obj.cells (exA x A ca B cb) 35)):
 SeqStopsK Fence.wide n Tryz.prog 111 #[.pointer (some ⟨Bs,0,none⟩)] (fun p:PtIn w0 x=>encP p.1) (KpE w0.heap.size) (fun ys=>exs ys=partsX x) (fun pre=>exs pre <+: partsX x) (sizeX x) w:=fun l J Jx W hW hJ _ hY h0=>by
 have hbl:=(Array.getElem?_eq_some_iff.1 hbx).1;have hblk:=(hW.block Bs hbl).trans hbx;have HCL:=Hd (each_in l (sizeX x) W.heap.size x w0 J Jx hJ (fun m pre p W1 hj hl=>yieldAnyDepth rfl m (hY pre p W1 hj hl)) x A ca B cb (n-1) [] W hr (fun q hq=>hq) (hb.trans (hW.mono hb.size)) h0 (by simp));have hcell:∀ j,W.cell? ⟨Bs,j,none⟩=(exA x A ca B cb)[j]?:=fun j=>by simp [World.cell?,hblk]
 obtain⟨q0,q1,q2,q3,q4,q5⟩:=Sx hcell;clear hcell hbx hblk hY hr hW hJ h0;unfold exA at HCL q0 q1 q2 q3 q4 q5;refine callsIn_of_wp Tryz.func111 rfl trivial ?_ rfl;simp only [Tryz.ntmps111,List.size_toArray,List.length_cons,List.length_nil,Nat.reduceAdd,Nat.reduceSub,Array.replicate_succ,Array.replicate_zero,List.push_toArray,List.append_toArray,List.nil_append,List.cons_append]
 gi_wp2_with fail
 refine⟨trivial,fun h=>(by cases h),(HCL.out).mono ?_⟩;rintro e W4 (⟨rfl,qs,hqs,hJ4,hk4⟩|⟨rfl,qs,hqs,hJx4⟩)
 · have HQS:=Hd hqs;have HJ4:=Hd hJ4;clear hqs hJ4 hk4
   gi_wp2_with fail
   go_end0
   exact⟨⟨_,rfl⟩,.inl ⟨qs,HQS.out,HJ4.out⟩⟩
 · have HQS:=Hd hqs;have HJ4:=Hd hJx4;clear hqs hJx4
   gi_wp2_with fail
   go_end0
   exact⟨⟨_,rfl⟩,.inr ⟨qs,HQS.out,HJ4.out⟩⟩
end
section
open Go.RowKit Go.Shelf
attribute [local go_sem] Oper.semAt_some
theorem exEach(x:Ex) (A:Option Addr) (ca:Nat) (B:Option Addr) (cb:Nat) (w:World) (hr:rdX w x A B):
 Calls Tryz.prog 75 #[.agg (exA x A ca B cb)] w fun r w'=>r=.returned (.func (.func 111) #[] #[.pointer (some ⟨w.heap.size,0,none⟩)])∧w'=w.alloc (Obj.cells (exA x A ca B cb) 35):=by
 have hmk:∀ fn first cap w,(Instr.makeFunc fn first cap).run Tryz.prog w=.ok (.func fn first cap) w:=fun _ _ _ _=>rfl
 clear hr;unfold exA
 go_enter Tryz.func75,Tryz.ntmps75
 go_wp2_with fail
 go_ret
 exact⟨rfl,rfl⟩
theorem KeepsE.setCell{W:World}{B:Nat}{t:TypeId}{v:Value}(h:Boxed W B t v) (ht:t≠35) (u:Value):KeepsE W (W.setCell ⟨B,0,none⟩ u):=fun k cs hh e=>by
 have hne:some k≠some B:=by
  intro e';injection e' with e';subst e';rw [show W.heap[k]?=_ from h] at e;injection e with e;injection e with _ e;exact ht e
 have hk:=(Array.getElem?_eq_some_iff.1 e).1;exact((grownBy_setCell' W B u).block k hk hne).trans e
end
section
open Go.RowKit Go.Sort
theorem exSingle(x:Ex) (A:Option Addr) (ca:Nat) (B:Option Addr) (cb:Nat) (w:World) (hr:rdX w x A B):
 Calls Tryz.prog 85 #[.agg (exA x A ca B cb)] w fun e w'=>e=.returned (.bool (literalX x))∧Below w.heap.size w w':=by
 have HF:=Hd fun w1 h=>box_facts w x A ca B cb w1 h hr;have HS:=Hd (show literalX x=if x.k==5 then(x.op==1) && (x.subs.length==1) && ((subX x 0).k==1) else(x.k==1) || (x.k==2) || (x.k==4) from rfl);have hmx:=hr.subs.max;clear hr;unfold exA at HF ⊢;generalize literalX x=res at *;generalize x.k=k at *;generalize x.op=o at *;generalize hlen:x.subs.length=n at *;have hln:=int_len n
 by_cases h1:k=1
 · subst h1;have HN:=Hd (show res=true by rw [HS.out];rfl)
   go_enter Tryz.func85,Tryz.ntmps85
   go_upto_region 1 with(fail)
   generalize hw1:w.alloc _=w1;obtain⟨hb1,hg,hr1,hcell⟩:=HF.out w1 hw1;have HB1:=Hd hb1;have q0:=hcell w1 (Below.refl _ _) 0;clear hcell hb1 hr1 hw1 HF
   go_wp2_with fail
   go_ret
   exact⟨ret_bool HN.out.symm,HB1.out⟩
 by_cases h2:k=2
 · subst h2;have HN:=Hd (show res=true by rw [HS.out];rfl)
   go_enter Tryz.func85,Tryz.ntmps85
   go_upto_region 1 with(fail)
   generalize hw1:w.alloc _=w1;obtain⟨hb1,hg,hr1,hcell⟩:=HF.out w1 hw1;have HB1:=Hd hb1;have q0:=hcell w1 (Below.refl _ _) 0;clear hcell hb1 hr1 hw1 HF
   go_wp2_with fail
   go_ret
   exact⟨ret_bool HN.out.symm,HB1.out⟩
 by_cases h4:k=4
 · subst h4;have HN:=Hd (show res=true by rw [HS.out];rfl)
   go_enter Tryz.func85,Tryz.ntmps85
   go_upto_region 1 with(fail)
   generalize hw1:w.alloc _=w1;obtain⟨hb1,hg,hr1,hcell⟩:=HF.out w1 hw1;have HB1:=Hd hb1;have q0:=hcell w1 (Below.refl _ _) 0;clear hcell hb1 hr1 hw1 HF
   go_wp2_with fail
   go_ret
   exact⟨ret_bool HN.out.symm,HB1.out⟩
 by_cases h5:k=5
 · subst h5
   cases ho:(o==1) with
   | false=>
    have HN:=Hd (show res=false by rw [HS.out,ho];rfl)
    go_enter Tryz.func85,Tryz.ntmps85
    go_upto_region 1 with(fail)
    generalize hw1:w.alloc _=w1;obtain⟨hb1,hg,hr1,hcell⟩:=HF.out w1 hw1;have HB1:=Hd hb1;obtain⟨q0,-,-,q3,-,q5⟩:=Sx (hcell w1 (Below.refl _ _));clear hcell hb1 hr1 hw1 HF
    go_wp2_with fail
    go_ret
    exact⟨ret_bool HN.out.symm,HB1.out⟩
   | true=>
    cases hl:(n==1) with
    | false=>
     have HN:=Hd (show res=false by rw [HS.out,ho,hl];rfl);rw [hl] at hln
     go_enter Tryz.func85,Tryz.ntmps85
     go_upto_region 1 with(fail)
     generalize hw1:w.alloc _=w1;obtain⟨hb1,hg,hr1,hcell⟩:=HF.out w1 hw1;have HB1:=Hd hb1;obtain⟨q0,-,-,q3,-,q5⟩:=Sx (hcell w1 (Below.refl _ _));clear hcell hb1 hr1 hw1 HF
     go_wp2_with fail
     go_ret
     exact⟨ret_bool HN.out.symm,HB1.out⟩
    | true=>
     have HN:=Hd (show res=((subX x 0).k==1) by rw [HS.out,ho,hl];rfl);rw [hl] at hln;obtain rfl:n=1:=by simpa using hl
     go_enter Tryz.func85,Tryz.ntmps85
     go_upto_region 1 with(fail)
     generalize hw1:w.alloc _=w1;obtain⟨hb1,hg,hr1,hcell⟩:=HF.out w1 hw1;have HB1:=Hd hb1;obtain⟨q0,-,-,q3,-,q5⟩:=Sx (hcell w1 (Below.refl _ _));obtain⟨b,off,rfl,hb,hat⟩:=hr1.sub (i:=0) (by omega);obtain⟨A',ca',B',cb',hrg,hrd⟩:=hat 0 (by omega);rw [Nat.zero_mul,Nat.add_zero] at hrg;obtain⟨c0,c1,c2,c3,c4,c5⟩:=rangeAt_six hrg;clear hat hrg hrd c1 c2 c3 c4 c5;clear hcell hb1 hr1 hw1 HF;generalize (subX x 0).k=z at *
     go_wp2_with fail
     go_ret
     exact⟨ret_bool HN.out.symm,HB1.out⟩
 have e1:(k==1)=false:=by simpa using h1
 have e2:(k==2)=false:=by simpa using h2
 have e4:(k==4)=false:=by simpa using h4
 have e5:(k==5)=false:=by simpa using h5
 have HN:=Hd (show res=false by rw [HS.out,e5,e1,e2,e4];rfl)
 go_enter Tryz.func85,Tryz.ntmps85
 go_upto_region 1 with(fail)
 generalize hw1:w.alloc _=w1;obtain⟨hb1,hg,hr1,hcell⟩:=HF.out w1 hw1;have HB1:=Hd hb1;have q0:=hcell w1 (Below.refl _ _) 0;clear hcell hb1 hr1 hw1 HF
 go_wp2_with fail
 go_ret
 exact⟨ret_bool HN.out.symm,HB1.out⟩
theorem exConst(x:Ex) (A:Option Addr) (ca:Nat) (B:Option Addr) (cb:Nat) (w:World) (hr:rdX w x A B):
 Calls Tryz.prog 46 #[.agg (exA x A ca B cb)] w fun e w'=>e=.returned (.bool (constX x))∧Below w.heap.size w w':=by
 have HF:=Hd fun w1 h=>box_facts w x A ca B cb w1 h hr;have HS:=Hd (show constX x=if x.k==14 then x.subs.all literalX else literalX x from rfl);have hmx:=hr.subs.max;have HLT:=Hd fun(x:Ex) (A:Option Addr) (ca:Nat) (B:Option Addr) (cb:Nat) (w:World) (hr:rdX w x A B)=>exSingle x A ca B cb w hr;have HBX:=Hd fun(x:Ex) (A:Option Addr) (ca:Nat) (B:Option Addr) (cb:Nat) (w w1:World) (h:_) (hr:rdX w x A B)=>box_facts w x A ca B cb w1 h hr;have HAL:=Hd fun i (hi:i<x.subs.length) (h:literalX (subX x i)=false)=>all_false (f:=literalX) hi h;have HAS:=Hd fun k (hk:k<x.subs.length) h (hx:literalX (subX x k)=true)=>all_take_succ (f:=literalX) hk h hx;have HAE:=Hd fun k h (hk:x.subs.length≤k)=>all_take_end (l:=x.subs) (f:=literalX) (k:=k) h hk;have HLX:=Hd fun w1 (h:rdX w1 x A B)=>exSingle x A ca B cb w1 h;clear hr;unfold exA at HF HLT HLX HBX ⊢;generalize constX x=res at *;generalize literalX x=lx at *;generalize x.k=k at *;generalize hlen:x.subs.length=n at *
 cases h14:(k==14) with
 | false=>
  have n14:(k != 14)=true:=by rw [bne,h14];rfl
  have HN:=Hd (show res=lx by rw [HS.out,h14];rfl)
  go_enter Tryz.func46,Tryz.ntmps46
  go_upto_region 1 with(fail)
  generalize hw1:w.alloc _=w1;obtain⟨hb1,hg,hr1,hcell⟩:=HF.out w1 hw1;have HB1:=Hd hb1;obtain⟨q0,q1,q2,q3,q4,q5⟩:=Sx (hcell w1 (Below.refl _ _));have HL1:=Hd (HLX.out w1 hr1);clear hcell hb1 hr1 hw1 HF
  go_wp2_with fail
  refine HL1.out.mono ?_;rintro r w2 ⟨rfl,hb2⟩;have HB2:=Hd (HB1.out.trans (hb2.mono HB1.out.size));clear hb2
  go_wp2_with fail
  go_ret
  exact⟨ret_bool HN.out.symm,HB2.out⟩
 | true=>
  obtain rfl:k=14:=by simpa using h14
  have HN:=Hd (show res=x.subs.all literalX by rw [HS.out];rfl)
  go_enter Tryz.func46,Tryz.ntmps46
  go_upto_region 1 with(fail)
  generalize hw1:w.alloc _=w1;obtain⟨hb1,hg,hr1,hcell⟩:=HF.out w1 hw1;have HB1:=Hd hb1;have q0:=hcell w1 (Below.refl _ _) 0;have q5:=hcell w1 (Below.refl _ _) 5;have HC:=Hd hcell;have HR1:=Hd hr1;clear hcell hb1 hr1 hw1 HF
  go_wp2_with fail
  go_loopw [13] (fun i wr=>∃ k:Nat,k≤n∧i=.int .i64 k∧(x.subs.take k).all literalX=true∧Below w1.heap.size w1 wr) (fun i _=>n-(intOf i).toNat)
  case atStart=>exact⟨0,Nat.zero_le _,rfl,by simp,Below.refl _ _⟩
  case round=>
   obtain⟨k,hk,rfl,hall,hbw⟩:=hrel;have HA:=Hd hall;have HBW:=Hd hbw;clear hall
   by_cases hlt:k<n
   · obtain⟨b,off,rfl,hb,hat⟩:=(HR1.out.below hbw).sub (i:=k) (by omega);obtain⟨A',ca',B',cb',hrg,hrd⟩:=hat k (by omega);obtain⟨c0,c1,c2,c3,c4,c5⟩:=rangeAt_six hrg;have HF3:=Hd fun w3 h=>HBX.out (subX x k) A' ca' B' cb' wr w3 h hrd;have HAL':=Hd (HAL.out k (by omega));have HAS':=Hd (HAS.out k (by omega) HA.out);clear hat hbw hrg hrd
     go_upto_region 6 with(fail)
     generalize hw3:wr.alloc _=w3;obtain⟨hb3,hg3,hr3,hcell3⟩:=HF3.out w3 hw3;obtain⟨d0,d1,d2,d3,d4,d5⟩:=Sx (hcell3 w3 (Below.refl _ _));have HCL:=Hd (HLT.out (subX x k) A' ca' B' cb' w3 hr3);have HB3:=Hd (HBW.out.trans (hb3.mono HBW.out.size));clear hcell3 hb3 hr3 hw3 HF3
     cases hl:literalX (subX x k) with
     | false=>
      rw [hl] at HCL;have HF':=Hd (HAL'.out hl)
      go_wp2_with fail
      refine HCL.out.mono ?_;rintro r w2 ⟨rfl,hb2⟩;have HB2:=Hd (HB3.out.trans (hb2.mono HB3.out.size));clear hb2
      go_wp2_with fail
      go_ret
      exact⟨ret_bool (by rw [HN.out,HF'.out]),HB1.out.trans (HB2.out.mono HB1.out.size)⟩
     | true=>
      rw [hl] at HCL;have HF':=Hd (HAS'.out hl)
      go_wp2_with fail
      refine HCL.out.mono ?_;rintro r w2 ⟨rfl,hb2⟩;have HB2:=Hd (HB3.out.trans (hb2.mono HB3.out.size));clear hb2
      go_wp2_with fail
      go_roundw
      case rel=>exact⟨k+1,by omega,by go_num,HF'.out,HB2.out⟩
      case measure=>simp [intOf];omega
   · have HE:=Hd (HAE.out k HA.out (by omega))
     go_wp2_with fail
     go_ret
     exact⟨ret_bool (by rw [HN.out,HE.out]),HB1.out.trans (HBW.out.mono HB1.out.size)⟩
theorem exDepth:∀ (x:Ex) (A:Option Addr) (ca:Nat) (B:Option Addr) (cb:Nat) (w:World),rdX w x A B→sizeX x≤1000000 →
 Calls Tryz.prog 77 #[.agg (exA x A ca B cb)] w fun e w'=>e=.returned (.int .i64 (depthX x:Nat))∧Below w.heap.size w w':=by
 refine size_ind fun x ih A ca B cb w hr hs=>?_;have HIH:=Hd ih;have HSZ:=Hd (depthX_eq x);have hds:=depth_size x;have hsz:=depthX_eq x;have hmx:=hr.subs.max;have HF:=Hd fun w1 h=>box_facts w x A ca B cb w1 h hr;have HBX:=Hd fun(x:Ex) (A:Option Addr) (ca:Nat) (B:Option Addr) (cb:Nat) (w w1:World) (h:_) (hr:rdX w x A B)=>box_facts w x A ca B cb w1 h hr;have HSN:=Hd fun i (hi:i<x.subs.length)=>depths_snoc hi;have HSUB:=Hd fun i (hi:i<x.subs.length)=>(size_sub (subX_mem hi));have HTL:=Hd (List.take_length (l:=x.subs));clear ih hr;unfold exA at HF HIH HBX ⊢;generalize hlen:x.subs.length=len at *
 go_enter Tryz.func77,Tryz.ntmps77
 go_upto_region 1 with(fail)
 generalize hw1:w.alloc _=w1;obtain⟨hb1,hg,hr1,hcell⟩:=HF.out w1 hw1;have HB1:=Hd hb1;have q5:=hcell w1 (Below.refl _ _) 5;have HR1:=Hd hr1;clear hcell hb1 hr1 hw1 HF
 go_wp2_with fail
 go_loopw [3,9] (fun s i wr=>∃ k:Nat,k≤len∧i=.int .i64 k∧s=.int .i64 ((depthsX (x.subs.take k):Nat):Int)∧Below w1.heap.size w1 wr) (fun _ i _=>len-(intOf i).toNat)
 case atStart=>exact⟨0,Nat.zero_le _,rfl,by simp [depthsX],Below.refl _ _⟩
 case round=>
  obtain⟨k,hk,rfl,rfl,hbw⟩:=hrel;have HBW:=Hd hbw
  by_cases hlt:k<len
  · obtain⟨b,off,rfl,hb,hat⟩:=(HR1.out.below hbw).sub (i:=k) (by omega);obtain⟨A',ca',B',cb',hrg,hrd⟩:=hat k (by omega);obtain⟨c0,c1,c2,c3,c4,c5⟩:=rangeAt_six hrg;have HF3:=Hd fun w3 h=>HBX.out (subX x k) A' ca' B' cb' wr w3 h hrd;have HSNK:=Hd (HSN.out k (by omega));clear hat hbw hrg hrd;have hss:=HSUB.out k (by omega)
    go_upto_region 5 with(fail)
    generalize hw3:wr.alloc _=w3;obtain⟨hb3,hg3,hr3,hcell3⟩:=HF3.out w3 hw3;obtain⟨d0,d1,d2,d3,d4,d5⟩:=Sx (hcell3 w3 (Below.refl _ _));have HCL:=Hd (HIH.out k (by omega) A' ca' B' cb' w3 hr3 (by omega));have HB3:=Hd (HBW.out.trans (hb3.mono HBW.out.size));clear hcell3 hb3 hr3 hw3 HF3
    go_wp2_with fail
    refine HCL.out.mono ?_;rintro r w2 ⟨rfl,hb2⟩;have HB2:=Hd (HB3.out.trans (hb2.mono HB3.out.size));clear hb2
    go_wp2_with fail
    go_roundw
    case rel=>
     refine⟨k+1,by omega,by go_num,?_,HB2.out⟩;rw [HSNK.out]
     first | rfl | (congr 1;omega) | (simp;done) | skip
    case measure=>simp [intOf];omega
  · have hkl:k=len:=by omega
    subst hkl;have HE:=Hd (hlen ▸ HTL.out:x.subs.take k=x.subs);rw [HE.out];generalize depthsX x.subs=d at *
    go_wp2_with fail
    go_ret
    refine⟨?_,HB1.out.trans (HBW.out.mono HB1.out.size)⟩;rw [HSZ.out,Nat.add_comm];rfl
end
section
open Go.RowKit Go.Shelf
attribute [local go_sem] Oper.semAt_some
theorem blkOwn{β:Type}(B:Nat) (cs:Array Value) (t:TypeId):Own (fun(_:β) W=>W.heap[B]?=some (Obj.cells cs t)):=fun s X Y row hs hg hrow=>
 (hg.block B (Array.getElem?_eq_some_iff.1 hs).1 (fun e'=>by obtain⟨o,ho,hc⟩:=hrow B e'.symm;rw [hs] at ho;cases ho;cases hc)).trans hs
theorem KeepsE.alloc(W:World) (o:Obj):KeepsE W (W.alloc o):=KeepsE.of_below ((Below.refl _ _).alloc (Nat.le_refl _) o)
end
end Go.Proofs.YtegjgiofmpolnaaGreat
