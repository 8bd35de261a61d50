/- Parts of the proof: ExV, PgA. Conditions: each theorem's own. -/
import Derived.Test.YtkbpdoomhfkngaaF03
namespace Go.Proofs.Ytkbpdoomhfkngaa
set_option linter.unusedVariables false
set_option linter.unusedSimpArgs false
set_option maxRecDepth 100000
set_option maxHeartbeats 40000000
section
open Go.RowKit Go.Sort
def ShortP(p:Ex):Prop:=p.s.size≤1000∧(∀ t∈p.arms,t.size≤9223372036854775807)∧p.arms.length≤100
theorem ShortP.of_few{p:Ex}(h:fewP p=true):ShortP p:=by
 simp only [fewP,Bool.and_eq_true,Bool.not_eq_true',decide_eq_false_iff_not,List.all_eq_true] at h;obtain⟨⟨h1,h2⟩,h3⟩:=h;refine⟨by omega,fun t ht=>?_,by omega⟩;have:=h3 t ht;simp only [fewA,Bool.not_eq_true',decide_eq_false_iff_not] at this;omega
def partX(x:Ex):Bool:=decide (1≤x.k) && decide (x.k≤17) && numbersX x && namedX x && armsX x && decide ((subsX x).1≤x.subs.length) && decide ((x.subs.length:Int)≤(subsX x).2) && ((x.k != 8) || constX (subX x 0))
def rightX(x:Ex):Bool:=!decide (60<sizeX x) && !decide (12<depthX x) && (partsX x).all partX
theorem numbers_13{x:Ex}(h:numbersX x=true) (hk:x.k=13):x.n=0∨x.n=1:=by
 unfold numbersX at h;rw [hk] at h
 simp at h
 exact h.2
theorem subs_8{x:Ex}(hk:x.k=8):subsX x=(2,2):=by
 unfold subsX;rw [hk];rfl
theorem refPart(x:Ex) (A:Option Addr) (ca:Nat) (B:Option Addr) (cb:Nat) (w:World) (hr:rdX w x A B) (hsh:ShortP x):
 Calls Try.prog 23 #[.agg (exA x A ca B cb)] w fun e w'=>e=.returned (.bool (partX x))∧Below w.heap.size w w':=by
 have HF:=Hd fun w1 h=>box_facts w x A ca B cb w1 h hr;have HS:=Hd (show partX x=(decide (1≤x.k) && decide (x.k≤17) && numbersX x && namedX x && armsX x && decide ((subsX x).1≤x.subs.length) && decide ((x.subs.length:Int)≤(subsX x).2) && ((x.k != 8) || constX (subX x 0))) from rfl);have HNU:=Hd fun w1 (h:Below w.heap.size w w1)=>refNumbers x A ca B cb w1 (hr.below h);have HNA:=Hd fun w1 (h:Below w.heap.size w w1)=>refNamed x A ca B cb w1 (hr.below h) hsh.1;have HAR:=Hd fun w1 (h:Below w.heap.size w w1)=>refArms x A ca B cb w1 (hr.below h) hsh.2.1 hsh.2.2;have HSU:=Hd fun w1 (h:Below w.heap.size w w1) (hn:x.k=13→x.n=0∨x.n=1)=>refSubs x A ca B cb w1 (hr.below h) hn;have HN13:=Hd (numbers_13 (x:=x));have HS8:=Hd (subs_8 (x:=x));have hmx:=hr.subs.max;clear hr hsh;unfold exA at HF HNU HNA HAR HSU ⊢;generalize partX x=res at *;generalize numbersX x=bnu at *;generalize namedX x=bna at *;generalize armsX x=bar at *;generalize hsu:subsX x=su at *;obtain⟨lo,hi⟩:=su;clear hsu;simp only at HS HSU HS8;generalize x.k=k at *;generalize x.n=m at *;generalize hlen:x.subs.length=n at *
 by_cases h1:k<1
 · have HN:=Hd (show res=false by rw [HS.out,decide_eq_false (show ¬ 1≤k by omega)];rfl)
   go_enter Try.func23,Try.ntmps23
   go_upto_region 1 with(fail)
   generalize hw1:w.alloc _=w1;obtain⟨hb1,hg,hr1,hcell⟩:=HF.out w1 hw1;have HB1:=Hd hb1;have HC:=Hd hcell;have HR1:=Hd hr1;have HW1:=Hd (Below.refl w1.heap.size w1);obtain⟨q0,q1,q2,q3,q4,q5⟩:=Sx (hcell w1 (Below.refl _ _));clear hcell hb1 hr1 hw1 HF
   go_wp2_with fail
   go_ret
   exact⟨ret_bool HN.out.symm,HB1.out⟩
 by_cases h17:17<k
 · have HN:=Hd (show res=false by rw [HS.out,decide_eq_false (show ¬ k≤17 by omega)];simp)
   go_enter Try.func23,Try.ntmps23
   go_upto_region 1 with(fail)
   generalize hw1:w.alloc _=w1;obtain⟨hb1,hg,hr1,hcell⟩:=HF.out w1 hw1;have HB1:=Hd hb1;have HC:=Hd hcell;have HR1:=Hd hr1;have HW1:=Hd (Below.refl w1.heap.size w1);obtain⟨q0,q1,q2,q3,q4,q5⟩:=Sx (hcell w1 (Below.refl _ _));clear hcell hb1 hr1 hw1 HF
   go_wp2_with fail
   go_ret
   exact⟨ret_bool HN.out.symm,HB1.out⟩
 rw [decide_eq_true (show 1≤k by omega),decide_eq_true (show k≤17 by omega)] at HS
 cases bnu with
 | false=>
  have HN:=Hd (show res=false by rw [HS.out];simp)
  go_enter Try.func23,Try.ntmps23
  go_upto_region 1 with(fail)
  generalize hw1:w.alloc _=w1;obtain⟨hb1,hg,hr1,hcell⟩:=HF.out w1 hw1;have HB1:=Hd hb1;have HC:=Hd hcell;have HR1:=Hd hr1;have HW1:=Hd (Below.refl w1.heap.size w1);obtain⟨q0,q1,q2,q3,q4,q5⟩:=Sx (hcell w1 (Below.refl _ _));clear hcell hb1 hr1 hw1 HF
  go_wp2_with fail
  refine(HNU.out w1 HB1.out).mono ?_;rintro r w2 ⟨rfl,hb⟩;have HB2:=Hd (HB1.out.trans (hb.mono HB1.out.size));have HW2:=Hd (HW1.out.trans (hb.mono HW1.out.size));clear hb q0 q1 q2 q3 q4 q5;obtain⟨q0,q1,q2,q3,q4,q5⟩:=Sx (HC.out w2 HW2.out)
  go_wp2_with fail
  go_ret
  exact⟨ret_bool HN.out.symm,HB2.out⟩
 | true=>
  cases bna with
  | false=>
   have HN:=Hd (show res=false by rw [HS.out];simp)
   go_enter Try.func23,Try.ntmps23
   go_upto_region 1 with(fail)
   generalize hw1:w.alloc _=w1;obtain⟨hb1,hg,hr1,hcell⟩:=HF.out w1 hw1;have HB1:=Hd hb1;have HC:=Hd hcell;have HR1:=Hd hr1;have HW1:=Hd (Below.refl w1.heap.size w1);obtain⟨q0,q1,q2,q3,q4,q5⟩:=Sx (hcell w1 (Below.refl _ _));clear hcell hb1 hr1 hw1 HF
   go_wp2_with fail
   refine(HNU.out w1 HB1.out).mono ?_;rintro r w2 ⟨rfl,hb⟩;have HB2:=Hd (HB1.out.trans (hb.mono HB1.out.size));have HW2:=Hd (HW1.out.trans (hb.mono HW1.out.size));clear hb q0 q1 q2 q3 q4 q5;obtain⟨q0,q1,q2,q3,q4,q5⟩:=Sx (HC.out w2 HW2.out)
   go_wp2_with fail
   refine(HNA.out w2 HB2.out).mono ?_;rintro r w3 ⟨rfl,hb⟩;have HB3:=Hd (HB2.out.trans (hb.mono HB2.out.size));have HW3:=Hd (HW2.out.trans (hb.mono HW2.out.size));clear hb q0 q1 q2 q3 q4 q5;obtain⟨q0,q1,q2,q3,q4,q5⟩:=Sx (HC.out w3 HW3.out)
   go_wp2_with fail
   go_ret
   exact⟨ret_bool HN.out.symm,HB3.out⟩
  | true=>
   cases bar with
   | false=>
    have HN:=Hd (show res=false by rw [HS.out];simp)
    go_enter Try.func23,Try.ntmps23
    go_upto_region 1 with(fail)
    generalize hw1:w.alloc _=w1;obtain⟨hb1,hg,hr1,hcell⟩:=HF.out w1 hw1;have HB1:=Hd hb1;have HC:=Hd hcell;have HR1:=Hd hr1;have HW1:=Hd (Below.refl w1.heap.size w1);obtain⟨q0,q1,q2,q3,q4,q5⟩:=Sx (hcell w1 (Below.refl _ _));clear hcell hb1 hr1 hw1 HF
    go_wp2_with fail
    refine(HNU.out w1 HB1.out).mono ?_;rintro r w2 ⟨rfl,hb⟩;have HB2:=Hd (HB1.out.trans (hb.mono HB1.out.size));have HW2:=Hd (HW1.out.trans (hb.mono HW1.out.size));clear hb q0 q1 q2 q3 q4 q5;obtain⟨q0,q1,q2,q3,q4,q5⟩:=Sx (HC.out w2 HW2.out)
    go_wp2_with fail
    refine(HNA.out w2 HB2.out).mono ?_;rintro r w3 ⟨rfl,hb⟩;have HB3:=Hd (HB2.out.trans (hb.mono HB2.out.size));have HW3:=Hd (HW2.out.trans (hb.mono HW2.out.size));clear hb q0 q1 q2 q3 q4 q5;obtain⟨q0,q1,q2,q3,q4,q5⟩:=Sx (HC.out w3 HW3.out)
    go_wp2_with fail
    refine(HAR.out w3 HB3.out).mono ?_;rintro r w4 ⟨rfl,hb⟩;have HB4:=Hd (HB3.out.trans (hb.mono HB3.out.size));have HW4:=Hd (HW3.out.trans (hb.mono HW3.out.size));clear hb q0 q1 q2 q3 q4 q5;obtain⟨q0,q1,q2,q3,q4,q5⟩:=Sx (HC.out w4 HW4.out)
    go_wp2_with fail
    go_ret
    exact⟨ret_bool HN.out.symm,HB4.out⟩
   | true=>
    by_cases hlo:(n:Int)<lo
    · have HN:=Hd (show res=false by rw [HS.out,decide_eq_false (show ¬ lo≤(n:Int) by omega)];simp)
      go_enter Try.func23,Try.ntmps23
      go_upto_region 1 with(fail)
      generalize hw1:w.alloc _=w1;obtain⟨hb1,hg,hr1,hcell⟩:=HF.out w1 hw1;have HB1:=Hd hb1;have HC:=Hd hcell;have HR1:=Hd hr1;have HW1:=Hd (Below.refl w1.heap.size w1);obtain⟨q0,q1,q2,q3,q4,q5⟩:=Sx (hcell w1 (Below.refl _ _));clear hcell hb1 hr1 hw1 HF
      go_wp2_with fail
      refine(HNU.out w1 HB1.out).mono ?_;rintro r w2 ⟨rfl,hb⟩;have HB2:=Hd (HB1.out.trans (hb.mono HB1.out.size));have HW2:=Hd (HW1.out.trans (hb.mono HW1.out.size));clear hb q0 q1 q2 q3 q4 q5;obtain⟨q0,q1,q2,q3,q4,q5⟩:=Sx (HC.out w2 HW2.out)
      go_wp2_with fail
      refine(HNA.out w2 HB2.out).mono ?_;rintro r w3 ⟨rfl,hb⟩;have HB3:=Hd (HB2.out.trans (hb.mono HB2.out.size));have HW3:=Hd (HW2.out.trans (hb.mono HW2.out.size));clear hb q0 q1 q2 q3 q4 q5;obtain⟨q0,q1,q2,q3,q4,q5⟩:=Sx (HC.out w3 HW3.out)
      go_wp2_with fail
      refine(HAR.out w3 HB3.out).mono ?_;rintro r w4 ⟨rfl,hb⟩;have HB4:=Hd (HB3.out.trans (hb.mono HB3.out.size));have HW4:=Hd (HW3.out.trans (hb.mono HW3.out.size));clear hb q0 q1 q2 q3 q4 q5;obtain⟨q0,q1,q2,q3,q4,q5⟩:=Sx (HC.out w4 HW4.out)
      go_wp2_with fail
      refine(HSU.out w4 HB4.out (HN13.out (by first | trivial | rfl))).mono ?_;rintro r w5 ⟨rfl,hb⟩;have HB5:=Hd (HB4.out.trans (hb.mono HB4.out.size));have HW5:=Hd (HW4.out.trans (hb.mono HW4.out.size));clear hb q0 q1 q2 q3 q4 q5;obtain⟨q0,q1,q2,q3,q4,q5⟩:=Sx (HC.out w5 HW5.out)
      go_wp2_with fail
      go_ret
      exact⟨ret_bool HN.out.symm,HB5.out⟩
    by_cases hhi:hi<(n:Int)
    · have HN:=Hd (show res=false by rw [HS.out,decide_eq_false (show ¬ (n:Int)≤hi by omega)];simp)
      go_enter Try.func23,Try.ntmps23
      go_upto_region 1 with(fail)
      generalize hw1:w.alloc _=w1;obtain⟨hb1,hg,hr1,hcell⟩:=HF.out w1 hw1;have HB1:=Hd hb1;have HC:=Hd hcell;have HR1:=Hd hr1;have HW1:=Hd (Below.refl w1.heap.size w1);obtain⟨q0,q1,q2,q3,q4,q5⟩:=Sx (hcell w1 (Below.refl _ _));clear hcell hb1 hr1 hw1 HF
      go_wp2_with fail
      refine(HNU.out w1 HB1.out).mono ?_;rintro r w2 ⟨rfl,hb⟩;have HB2:=Hd (HB1.out.trans (hb.mono HB1.out.size));have HW2:=Hd (HW1.out.trans (hb.mono HW1.out.size));clear hb q0 q1 q2 q3 q4 q5;obtain⟨q0,q1,q2,q3,q4,q5⟩:=Sx (HC.out w2 HW2.out)
      go_wp2_with fail
      refine(HNA.out w2 HB2.out).mono ?_;rintro r w3 ⟨rfl,hb⟩;have HB3:=Hd (HB2.out.trans (hb.mono HB2.out.size));have HW3:=Hd (HW2.out.trans (hb.mono HW2.out.size));clear hb q0 q1 q2 q3 q4 q5;obtain⟨q0,q1,q2,q3,q4,q5⟩:=Sx (HC.out w3 HW3.out)
      go_wp2_with fail
      refine(HAR.out w3 HB3.out).mono ?_;rintro r w4 ⟨rfl,hb⟩;have HB4:=Hd (HB3.out.trans (hb.mono HB3.out.size));have HW4:=Hd (HW3.out.trans (hb.mono HW3.out.size));clear hb q0 q1 q2 q3 q4 q5;obtain⟨q0,q1,q2,q3,q4,q5⟩:=Sx (HC.out w4 HW4.out)
      go_wp2_with fail
      refine(HSU.out w4 HB4.out (HN13.out (by first | trivial | rfl))).mono ?_;rintro r w5 ⟨rfl,hb⟩;have HB5:=Hd (HB4.out.trans (hb.mono HB4.out.size));have HW5:=Hd (HW4.out.trans (hb.mono HW4.out.size));clear hb q0 q1 q2 q3 q4 q5;obtain⟨q0,q1,q2,q3,q4,q5⟩:=Sx (HC.out w5 HW5.out)
      go_wp2_with fail
      go_ret
      exact⟨ret_bool HN.out.symm,HB5.out⟩
    rw [decide_eq_true (show lo≤(n:Int) by omega),decide_eq_true (show(n:Int)≤hi by omega)] at HS
    by_cases h8:k=8
    · have h88:=HS8.out h8;injection h88 with hlo2 hhi2;subst hlo2 hhi2 h8;have HN:=Hd (show res=constX (subX x 0) by rw [HS.out];simp)
      go_enter Try.func23,Try.ntmps23
      go_upto_region 1 with(fail)
      generalize hw1:w.alloc _=w1;obtain⟨hb1,hg,hr1,hcell⟩:=HF.out w1 hw1;have HB1:=Hd hb1;have HC:=Hd hcell;have HR1:=Hd hr1;have HW1:=Hd (Below.refl w1.heap.size w1);obtain⟨q0,q1,q2,q3,q4,q5⟩:=Sx (hcell w1 (Below.refl _ _));clear hcell hb1 hr1 hw1 HF
      go_wp2_with fail
      refine(HNU.out w1 HB1.out).mono ?_;rintro r w2 ⟨rfl,hb⟩;have HB2:=Hd (HB1.out.trans (hb.mono HB1.out.size));have HW2:=Hd (HW1.out.trans (hb.mono HW1.out.size));clear hb q0 q1 q2 q3 q4 q5;obtain⟨q0,q1,q2,q3,q4,q5⟩:=Sx (HC.out w2 HW2.out)
      go_wp2_with fail
      refine(HNA.out w2 HB2.out).mono ?_;rintro r w3 ⟨rfl,hb⟩;have HB3:=Hd (HB2.out.trans (hb.mono HB2.out.size));have HW3:=Hd (HW2.out.trans (hb.mono HW2.out.size));clear hb q0 q1 q2 q3 q4 q5;obtain⟨q0,q1,q2,q3,q4,q5⟩:=Sx (HC.out w3 HW3.out)
      go_wp2_with fail
      refine(HAR.out w3 HB3.out).mono ?_;rintro r w4 ⟨rfl,hb⟩;have HB4:=Hd (HB3.out.trans (hb.mono HB3.out.size));have HW4:=Hd (HW3.out.trans (hb.mono HW3.out.size));clear hb q0 q1 q2 q3 q4 q5;obtain⟨q0,q1,q2,q3,q4,q5⟩:=Sx (HC.out w4 HW4.out)
      go_wp2_with fail
      refine(HSU.out w4 HB4.out (HN13.out (by first | trivial | rfl))).mono ?_;rintro r w5 ⟨rfl,hb⟩;have HB5:=Hd (HB4.out.trans (hb.mono HB4.out.size));have HW5:=Hd (HW4.out.trans (hb.mono HW4.out.size));clear hb q0 q1 q2 q3 q4 q5;obtain⟨q0,q1,q2,q3,q4,q5⟩:=Sx (HC.out w5 HW5.out);obtain⟨b,off,rfl,hb,hat⟩:=(HR1.out.below HW5.out).sub (i:=0) (by omega);obtain⟨A',ca',B',cb',hrg,hrd⟩:=hat 0 (by omega);rw [Nat.zero_mul,Nat.add_zero] at hrg;obtain⟨c0,c1,c2,c3,c4,c5⟩:=rangeAt_six hrg;have HCO:=Hd (refConst (subX x 0) A' ca' B' cb' w5 hrd);clear hat hrg hrd;generalize constX (subX x 0)=bco at *
      go_wp2_with fail
      refine HCO.out.mono ?_;rintro r w6 ⟨rfl,hb⟩;have HB6:=Hd (HB5.out.trans (hb.mono HB5.out.size));clear hb
      go_wp2_with fail
      go_ret
      exact⟨ret_bool HN.out.symm,HB6.out⟩
    have e8:(k==8)=false:=by simpa using h8
    have n8:(k != 8)=true:=by rw [bne,e8];rfl
    have HN:=Hd (show res=true by rw [HS.out,n8];rfl)
    go_enter Try.func23,Try.ntmps23
    go_upto_region 1 with(fail)
    generalize hw1:w.alloc _=w1;obtain⟨hb1,hg,hr1,hcell⟩:=HF.out w1 hw1;have HB1:=Hd hb1;have HC:=Hd hcell;have HR1:=Hd hr1;have HW1:=Hd (Below.refl w1.heap.size w1);obtain⟨q0,q1,q2,q3,q4,q5⟩:=Sx (hcell w1 (Below.refl _ _));clear hcell hb1 hr1 hw1 HF
    go_wp2_with fail
    refine(HNU.out w1 HB1.out).mono ?_;rintro r w2 ⟨rfl,hb⟩;have HB2:=Hd (HB1.out.trans (hb.mono HB1.out.size));have HW2:=Hd (HW1.out.trans (hb.mono HW1.out.size));clear hb q0 q1 q2 q3 q4 q5;obtain⟨q0,q1,q2,q3,q4,q5⟩:=Sx (HC.out w2 HW2.out)
    go_wp2_with fail
    refine(HNA.out w2 HB2.out).mono ?_;rintro r w3 ⟨rfl,hb⟩;have HB3:=Hd (HB2.out.trans (hb.mono HB2.out.size));have HW3:=Hd (HW2.out.trans (hb.mono HW2.out.size));clear hb q0 q1 q2 q3 q4 q5;obtain⟨q0,q1,q2,q3,q4,q5⟩:=Sx (HC.out w3 HW3.out)
    go_wp2_with fail
    refine(HAR.out w3 HB3.out).mono ?_;rintro r w4 ⟨rfl,hb⟩;have HB4:=Hd (HB3.out.trans (hb.mono HB3.out.size));have HW4:=Hd (HW3.out.trans (hb.mono HW3.out.size));clear hb q0 q1 q2 q3 q4 q5;obtain⟨q0,q1,q2,q3,q4,q5⟩:=Sx (HC.out w4 HW4.out)
    go_wp2_with fail
    refine(HSU.out w4 HB4.out (HN13.out (by first | trivial | rfl))).mono ?_;rintro r w5 ⟨rfl,hb⟩;have HB5:=Hd (HB4.out.trans (hb.mono HB4.out.size));have HW5:=Hd (HW4.out.trans (hb.mono HW4.out.size));clear hb q0 q1 q2 q3 q4 q5;obtain⟨q0,q1,q2,q3,q4,q5⟩:=Sx (HC.out w5 HW5.out)
    go_wp2_with fail
    go_ret
    exact⟨ret_bool HN.out.symm,HB5.out⟩
theorem refRight(x:Ex) (A:Option Addr) (ca:Nat) (B:Option Addr) (cb:Nat) (w:World) (hr:rdX w x A B) (hs:sizeX x≤1000000) (hsh:∀ p∈partsX x,ShortP p):
 Calls Try.prog 7 #[.agg (exA x A ca B cb)] w fun e w'=>e=.returned (.bool (rightX x))∧Below w.heap.size w w':=by
 have HF:=Hd fun w1 h=>box_facts w x A ca B cb w1 h hr;have HS:=Hd (show rightX x=(!decide (60<sizeX x) && !decide (12<depthX x) && (partsX x).all partX) from rfl);have HSZ:=Hd fun w1 (h:Below w.heap.size w w1)=>refSize x A ca B cb w1 (hr.below h) hs;have HDP:=Hd fun w1 (h:Below w.heap.size w w1)=>refDepth x A ca B cb w1 (hr.below h) hs;have HPT:=Hd fun w1 (h:Below w.heap.size w w1)=>refParts x A ca B cb w w1 hr h hs;have HLN:=Hd (partsX_len x);have HSH:=Hd fun i (hi:i<(partsX x).length)=>hsh ((partsX x)[i]?.getD default) (by rw [List.getElem?_eq_getElem hi];exact List.getElem_mem _);have hds:=depth_size x;have hsp:=size_pos x;clear hr hsh;unfold exA at HF HSZ HDP HPT ⊢;generalize rightX x=res at *;have HPE:Hid (∃ l,l=partsX x):=Hd ⟨_,rfl⟩
 by_cases h60:60<sizeX x
 · have HN:=Hd (show res=false by rw [HS.out];simp [h60]);generalize sizeX x=n at *
   go_enter Try.func7,Try.ntmps7
   go_upto_region 1 with(fail)
   generalize hw1:w.alloc _=w1;obtain⟨hb1,hg,hr1,hcell⟩:=HF.out w1 hw1;have HB1:=Hd hb1;have HC:=Hd hcell;have HR1:=Hd hr1;have HW1:=Hd (Below.refl w1.heap.size w1);obtain⟨q0,q1,q2,q3,q4,q5⟩:=Sx (hcell w1 (Below.refl _ _));clear hcell hb1 hr1 hw1 HF
   go_wp2_with fail
   refine(HSZ.out w1 HB1.out).mono ?_;rintro r w2 ⟨rfl,hb⟩;have HB2:=Hd (HB1.out.trans (hb.mono HB1.out.size));clear hb
   go_wp2_with fail
   go_ret
   exact⟨ret_bool HN.out.symm,HB2.out⟩
 by_cases h12:12<depthX x
 · have HN:=Hd (show res=false by rw [HS.out];simp [h12]);generalize sizeX x=n at *;generalize depthX x=d at *
   go_enter Try.func7,Try.ntmps7
   go_upto_region 1 with(fail)
   generalize hw1:w.alloc _=w1;obtain⟨hb1,hg,hr1,hcell⟩:=HF.out w1 hw1;have HB1:=Hd hb1;have HC:=Hd hcell;have HR1:=Hd hr1;have HW1:=Hd (Below.refl w1.heap.size w1);obtain⟨q0,q1,q2,q3,q4,q5⟩:=Sx (hcell w1 (Below.refl _ _));clear hcell hb1 hr1 hw1 HF
   go_wp2_with fail
   refine(HSZ.out w1 HB1.out).mono ?_;rintro r w2 ⟨rfl,hb⟩;have HB2:=Hd (HB1.out.trans (hb.mono HB1.out.size));have HW2:=Hd (HW1.out.trans (hb.mono HW1.out.size));clear hb q0 q1 q2 q3 q4 q5;obtain⟨q0,q1,q2,q3,q4,q5⟩:=Sx (HC.out w2 HW2.out)
   go_wp2_with fail
   refine(HDP.out w2 HB2.out).mono ?_;rintro r w3 ⟨rfl,hb⟩;have HB3:=Hd (HB2.out.trans (hb.mono HB2.out.size));have HW3:=Hd (HW2.out.trans (hb.mono HW2.out.size));clear hb q0 q1 q2 q3 q4 q5;obtain⟨q0,q1,q2,q3,q4,q5⟩:=Sx (HC.out w3 HW3.out)
   go_wp2_with fail
   go_ret
   exact⟨ret_bool HN.out.symm,HB3.out⟩
 have HS2:=Hd (show res=(partsX x).all partX by rw [HS.out];simp [h60,h12]);generalize depthX x=d at *
 go_enter Try.func7,Try.ntmps7
 go_upto_region 1 with(fail)
 generalize hw1:w.alloc _=w1;obtain⟨hb1,hg,hr1,hcell⟩:=HF.out w1 hw1;have HB1:=Hd hb1;have HC:=Hd hcell;have HR1:=Hd hr1;have HW1:=Hd (Below.refl w1.heap.size w1);obtain⟨q0,q1,q2,q3,q4,q5⟩:=Sx (hcell w1 (Below.refl _ _));clear hcell hb1 hr1 hw1 HF
 go_wp2_with fail
 refine(HSZ.out w1 HB1.out).mono ?_;rintro r w2 ⟨rfl,hb⟩;have HB2:=Hd (HB1.out.trans (hb.mono HB1.out.size));have HW2:=Hd (HW1.out.trans (hb.mono HW1.out.size));clear hb q0 q1 q2 q3 q4 q5;obtain⟨q0,q1,q2,q3,q4,q5⟩:=Sx (HC.out w2 HW2.out)
 go_wp2_with fail
 refine(HDP.out w2 HB2.out).mono ?_;rintro r w3 ⟨rfl,hb⟩;have HB3:=Hd (HB2.out.trans (hb.mono HB2.out.size));have HW3:=Hd (HW2.out.trans (hb.mono HW2.out.size));clear hb q0 q1 q2 q3 q4 q5;obtain⟨q0,q1,q2,q3,q4,q5⟩:=Sx (HC.out w3 HW3.out)
 go_wp2_with fail
 refine(HPT.out w3 HB3.out).mono ?_;rintro r w4 ⟨A2,c2,cs2,rfl,hcel,hfl2,hb,_⟩;have HB4:=Hd (HB3.out.trans (hb.mono HB3.out.size));have HRX:=Hd (hcel.rd hfl2 HB4.out);clear hcel hfl2 hb q0 q1 q2 q3 q4 q5 HPT HSZ HDP HS HPE;generalize partsX x=l at *;generalize sizeX x=n at *
 go_wp2_with fail
 go_loopw [4] (fun i wr=>∃ k:Nat,k≤n∧i=.int .i64 k∧(l.take k).all partX=true∧Below w4.heap.size w4 wr) (fun i _=>n-(intOf i).toNat)
 case atStart=>exact⟨0,Nat.zero_le _,rfl,by simp,Below.refl _ _⟩
 case round=>
  obtain⟨k,hk,rfl,hall,hbw⟩:=hrel;have HA:=Hd hall;have HBW:=Hd hbw;clear hall
  by_cases hlt:k<n
  · obtain⟨b,off,rfl,hb,hat⟩:=(HRX.out.below hbw).at_ hlt;obtain⟨A',ca',B',cb',hrg,hrd⟩:=hat k hlt;obtain⟨c0,c1,c2',c3,c4,c5⟩:=rangeAt_six hrg;have HK:=Hd (show k<l.length by rw [HLN.out];exact hlt);have HSK:=Hd (HSH.out k HK.out);have HFL:=Hd fun h=>all_false (l:=l) (f:=partX) (i:=k) HK.out h;have HTS:=Hd fun h=>all_take_succ (l:=l) (f:=partX) (k:=k) HK.out HA.out h;clear hat hrg hbw;generalize l[k]?.getD default=p at *;have HP:=Hd (refPart p A' ca' B' cb' wr hrd HSK.out);unfold exA at HP;clear hrd
    cases hp:partX p with
    | false=>
     rw [hp] at HP;have HN:=Hd (show res=false by rw [HS2.out];exact HFL.out hp)
     go_wp2_with fail
     refine HP.out.mono ?_;rintro r w5 ⟨rfl,hb5⟩;have HB5:=Hd (HBW.out.trans (hb5.mono HBW.out.size));clear hb5
     go_wp2_with fail
     go_ret
     exact⟨ret_bool HN.out.symm,HB4.out.trans (HB5.out.mono HB4.out.size)⟩
    | true=>
     rw [hp] at HP;have HN:=Hd (HTS.out hp)
     go_wp2_with fail
     refine HP.out.mono ?_;rintro r w5 ⟨rfl,hb5⟩;have HB5:=Hd (HBW.out.trans (hb5.mono HBW.out.size));clear hb5
     go_wp2_with fail
     go_roundw
     case rel=>exact⟨k+1,by omega,by go_num,HN.out,HB5.out⟩
     case measure=>simp [intOf];omega
  · have HN:=Hd (show res=true by rw [HS2.out];exact all_take_end HA.out (by rw [HLN.out];omega))
    go_wp2_with fail
    go_ret
    exact⟨ret_bool HN.out.symm,HB4.out.trans (HBW.out.mono HB4.out.size)⟩
end
section
open Go.RowKit
def dcFew(d:Dc):Bool:=!decide (100<d.nm.size) && !decide (100<d.on.size) && !decide (100<d.ct.size)
def fewD(l:List Dc):Bool:=l.all dcFew && decide (l.length≤20)
theorem all_take_step{α:Type} [Inhabited α] {f:α→Bool}{l:List α}{k:Nat}(h:(l.take k).all f=true) (hk:k<l.length) (hf:f (l[k]?.getD default)=true):(l.take (k+1)).all f=true:=by
 rw [List.take_add_one,List.getElem?_eq_getElem hk,List.all_append,h];rw [List.getElem?_eq_getElem hk] at hf
 simpa using hf
theorem all_at_no{α:Type} [Inhabited α] {f:α→Bool}{l:List α}{k:Nat}(hk:k<l.length) (hf:f (l[k]?.getD default)=false):l.all f=false:=by
 rw [List.getElem?_eq_getElem hk] at hf;rw [List.all_eq_false];exact⟨_,List.getElem_mem hk,by simpa using hf⟩
theorem refFewD(A:Option Addr) (n c:Nat) (l:List Dc) (w:World) (h:RdD w A n l):
 Calls Try.prog 17 #[.slice A n c] w fun e w'=>e=.returned (.bool (fewD l))∧w=w':=by
 have hlen:=h.len;have hmx:=h.max;have HL:=Hd hlen
 go_enter Try.func17,Try.ntmps17
 go_wp2_with fail
 go_loop [3] (fun i=>∃ k:Nat,k≤n∧i=.int .i64 k∧(l.take k).all dcFew=true) (fun i=>n-(intOf i).toNat)
 case atStart=>exact⟨0,Nat.zero_le _,rfl,by simp⟩
 case round=>
  obtain⟨k,hk,rfl,hto⟩:=hrel;have HT:=Hd hto;clear hto
  by_cases hlt:k<n
  · obtain⟨b,off,rfl,hb,hc⟩:=RdS.at_ h (by omega);obtain⟨c0,-,-,-,c4,c5⟩:=(hc k hlt).six;clear hc;have HS:=Hd fun hf=>all_take_step (l:=l) (f:=dcFew) HT.out (by rw [HL.out];exact hlt) hf;have HN:=Hd fun hf=>all_at_no (l:=l) (f:=dcFew) (k:=k) (by rw [HL.out];exact hlt) hf;generalize l[k]?.getD default=d at c0 c4 c5 HS HN;have HD:=Hd (show dcFew d=(!decide (100<d.nm.size) && !decide (100<d.on.size) && !decide (100<d.ct.size)) from rfl);generalize d.nm=x0 at *;generalize d.on=x1 at *;generalize d.ct=x2 at *
    cases d0:decide ((100:Int)<(x0.size:Int)) with
    | true=>
     have HN2:=Hd (HN.out (by rw [HD.out,show decide (100<x0.size)=true by have:=of_decide_eq_true d0;exact decide_eq_true (by omega)];simp))
     go_wp2_with fail
     go_ret
     exact⟨ret_bool (by rw [fewD,HN2.out];simp),rfl⟩
    | false=>
     cases d1:decide ((100:Int)<(x1.size:Int)) with
     | true=>
      have HN2:=Hd (HN.out (by rw [HD.out,show decide (100<x1.size)=true by have:=of_decide_eq_true d1;exact decide_eq_true (by omega)];simp))
      go_wp2_with fail
      go_ret
      exact⟨ret_bool (by rw [fewD,HN2.out];simp),rfl⟩
     | false=>
      cases d2:decide ((100:Int)<(x2.size:Int)) with
      | true=>
       have HN2:=Hd (HN.out (by rw [HD.out,show decide (100<x2.size)=true by have:=of_decide_eq_true d2;exact decide_eq_true (by omega)];simp))
       go_wp2_with fail
       go_ret
       exact⟨ret_bool (by rw [fewD,HN2.out];simp),rfl⟩
      | false=>
       have HY:=Hd (HS.out (by
        have h0:=of_decide_eq_false d0;have h1:=of_decide_eq_false d1;have h2:=of_decide_eq_false d2;rw [HD.out,decide_eq_false (show ¬ 100<x0.size by omega),decide_eq_false (show ¬ 100<x1.size by omega),decide_eq_false (show ¬ 100<x2.size by omega)];rfl))
       go_wp2_with fail
       go_round
       case rel=>exact⟨k+1,by omega,by go_num,HY.out⟩
       case measure=>simp [intOf];omega
  · have hkn:k=n:=by omega
    subst hkn;have HY:=Hd (show l.all dcFew=true by have:=HT.out;rwa [List.take_of_length_le (by rw [HL.out];exact Nat.le_refl _)] at this);have HE:=Hd (show fewD l=decide ((k:Int)≤20) by rw [fewD,HY.out,Bool.true_and,HL.out];simp;omega)
    go_wp2_with fail
    go_ret
    exact⟨ret_bool HE.out.symm,rfl⟩
end
end Go.Proofs.Ytkbpdoomhfkngaa
