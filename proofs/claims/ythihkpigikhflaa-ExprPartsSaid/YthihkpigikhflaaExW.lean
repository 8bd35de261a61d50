/- The walks of ExprSame and ExprRight. Conditions: none. -/
import Derived.Test.YthihkpigikhflaaExL
namespace Go.Proofs.Ythihkpigikhflaa
open Go.RowKit Go.Sort
set_option linter.unusedVariables false

theorem sameT_refl (a : List ByteArray) : sameT a a = true := by simp [sameT]
mutual
theorem sameX_refl : ∀ x : Ex, sameX x x = true
  | .mk k n s op a l => by simp [sameX, Ex.k, Ex.n, Ex.s, Ex.op, Ex.arms, Ex.subs, sameT_refl, sameXs_refl l]
theorem sameXs_refl : ∀ l : List Ex, sameXs l l = true
  | [] => by simp only [sameXs]
  | x :: l => by simp only [sameXs, sameX_refl x, sameXs_refl l, Bool.and_self]
end
theorem tiny_size {x : Ex} (h : tinyX x = true) : sizeX x ≤ 1000000 := by
  simp only [tinyX, Bool.and_eq_true, decide_eq_true_eq] at h
  omega
theorem tiny_short {x : Ex} (h : tinyX x = true) : ∀ p ∈ partsX x, ShortP p := by
  simp only [tinyX, Bool.and_eq_true, List.all_eq_true] at h
  exact fun p hp => ShortP.of_few (h.2 p hp)

set_option maxRecDepth 100000 in
set_option maxHeartbeats 2000000 in
theorem walkSame (x : Ex) (A : Option Addr) (ca : Nat) (B : Option Addr) (cb : Nat) (y : Ex) (A' : Option Addr) (ca' : Nat) (B' : Option Addr) (cb' : Nat) (w : World) (hr : rdX w x A B) (hr' : rdX w y A' B') :
    Calls Try.prog 6 #[.agg (exA x A ca B cb), .agg (exA y A' ca' B' cb')] w fun e w' => e = .returned (.bool true) ∧ Below w.heap.size w w' := by
  have HF := Lib.hid fun w1 h => box2_facts w x y A A' ca ca' B B' cb cb' w1 h hr hr'
  have HTX := Lib.hid fun w1 (h : Below w.heap.size w w1) => refSmall x A ca B cb w1 (hr.below h)
  have HTY := Lib.hid fun w1 (h : Below w.heap.size w w1) => refSmall y A' ca' B' cb' w1 (hr'.below h)
  have HS1 := Lib.hid fun w1 (h : Below w.heap.size w w1) => refSame x A ca B cb y A' ca' B' cb' w1 (hr.below h) (hr'.below h)
  have HS2 := Lib.hid fun w1 (h : Below w.heap.size w w1) => exSame x A ca B cb y A' ca' B' cb' w1 (hr.below h) (hr'.below h)
  have HS3 := Lib.hid fun w1 (h : Below w.heap.size w w1) => exSame x A ca B cb x A ca B cb w1 (hr.below h) (hr.below h)
  rw [sameX_refl] at HS3
  clear hr hr'
  unfold exA at HF HTX HTY HS1 HS2 HS3 ⊢
  generalize tinyX x = tx at *
  generalize tinyX y = ty at *
  generalize sameX x y = s at *
  cases tx with
  | false =>
    go_enter Try.func6, Try.ntmps6
    go_upto_region 1 with (fail)
    generalize hw1 : (w.alloc _).alloc _ = w1
    obtain ⟨hb1, hg, hr1, hr2, hcell, hcell2⟩ := HF.out w1 hw1
    have HB1 := Lib.hid hb1
    have HC := Lib.hid hcell
    have HC2 := Lib.hid hcell2
    have HW1 := Lib.hid (Below.refl w1.heap.size w1)
    clear hb1 hr1 hr2 hcell hcell2 hw1 HF
    have q0 := HC.out w1 HW1.out 0
    have p0 := HC2.out w1 HW1.out 0
    have q1 := HC.out w1 HW1.out 1
    have p1 := HC2.out w1 HW1.out 1
    have q2 := HC.out w1 HW1.out 2
    have p2 := HC2.out w1 HW1.out 2
    have q3 := HC.out w1 HW1.out 3
    have p3 := HC2.out w1 HW1.out 3
    have q4 := HC.out w1 HW1.out 4
    have p4 := HC2.out w1 HW1.out 4
    have q5 := HC.out w1 HW1.out 5
    have p5 := HC2.out w1 HW1.out 5
    go_wp2_with fail
    refine (HTX.out w1 HB1.out).mono ?_
    rintro r w2 ⟨rfl, hb⟩
    have HB2 := Lib.hid (HB1.out.trans (hb.mono HB1.out.size))
    have HW2 := Lib.hid (HW1.out.trans (hb.mono HW1.out.size))
    clear hb q0 q1 q2 q3 q4 q5 p0 p1 p2 p3 p4 p5
    have q0 := HC.out w2 HW2.out 0
    have p0 := HC2.out w2 HW2.out 0
    have q1 := HC.out w2 HW2.out 1
    have p1 := HC2.out w2 HW2.out 1
    have q2 := HC.out w2 HW2.out 2
    have p2 := HC2.out w2 HW2.out 2
    have q3 := HC.out w2 HW2.out 3
    have p3 := HC2.out w2 HW2.out 3
    have q4 := HC.out w2 HW2.out 4
    have p4 := HC2.out w2 HW2.out 4
    have q5 := HC.out w2 HW2.out 5
    have p5 := HC2.out w2 HW2.out 5
    go_wp2_with fail
    refine (live_any w2).mono ?_
    rintro r w3 ⟨rfl, hb⟩
    have HB3 := Lib.hid (HB2.out.trans (hb.mono HB2.out.size))
    clear hb
    go_wp2_with fail
    go_ret
    exact ⟨rfl, HB3.out⟩
  | true =>
    cases ty with
    | false =>
      go_enter Try.func6, Try.ntmps6
      go_upto_region 1 with (fail)
      generalize hw1 : (w.alloc _).alloc _ = w1
      obtain ⟨hb1, hg, hr1, hr2, hcell, hcell2⟩ := HF.out w1 hw1
      have HB1 := Lib.hid hb1
      have HC := Lib.hid hcell
      have HC2 := Lib.hid hcell2
      have HW1 := Lib.hid (Below.refl w1.heap.size w1)
      clear hb1 hr1 hr2 hcell hcell2 hw1 HF
      have q0 := HC.out w1 HW1.out 0
      have p0 := HC2.out w1 HW1.out 0
      have q1 := HC.out w1 HW1.out 1
      have p1 := HC2.out w1 HW1.out 1
      have q2 := HC.out w1 HW1.out 2
      have p2 := HC2.out w1 HW1.out 2
      have q3 := HC.out w1 HW1.out 3
      have p3 := HC2.out w1 HW1.out 3
      have q4 := HC.out w1 HW1.out 4
      have p4 := HC2.out w1 HW1.out 4
      have q5 := HC.out w1 HW1.out 5
      have p5 := HC2.out w1 HW1.out 5
      go_wp2_with fail
      refine (HTX.out w1 HB1.out).mono ?_
      rintro r w2 ⟨rfl, hb⟩
      have HB2 := Lib.hid (HB1.out.trans (hb.mono HB1.out.size))
      have HW2 := Lib.hid (HW1.out.trans (hb.mono HW1.out.size))
      clear hb q0 q1 q2 q3 q4 q5 p0 p1 p2 p3 p4 p5
      have q0 := HC.out w2 HW2.out 0
      have p0 := HC2.out w2 HW2.out 0
      have q1 := HC.out w2 HW2.out 1
      have p1 := HC2.out w2 HW2.out 1
      have q2 := HC.out w2 HW2.out 2
      have p2 := HC2.out w2 HW2.out 2
      have q3 := HC.out w2 HW2.out 3
      have p3 := HC2.out w2 HW2.out 3
      have q4 := HC.out w2 HW2.out 4
      have p4 := HC2.out w2 HW2.out 4
      have q5 := HC.out w2 HW2.out 5
      have p5 := HC2.out w2 HW2.out 5
      go_wp2_with fail
      refine (HTY.out w2 HB2.out).mono ?_
      rintro r w3 ⟨rfl, hb⟩
      have HB3 := Lib.hid (HB2.out.trans (hb.mono HB2.out.size))
      have HW3 := Lib.hid (HW2.out.trans (hb.mono HW2.out.size))
      clear hb q0 q1 q2 q3 q4 q5 p0 p1 p2 p3 p4 p5
      have q0 := HC.out w3 HW3.out 0
      have p0 := HC2.out w3 HW3.out 0
      have q1 := HC.out w3 HW3.out 1
      have p1 := HC2.out w3 HW3.out 1
      have q2 := HC.out w3 HW3.out 2
      have p2 := HC2.out w3 HW3.out 2
      have q3 := HC.out w3 HW3.out 3
      have p3 := HC2.out w3 HW3.out 3
      have q4 := HC.out w3 HW3.out 4
      have p4 := HC2.out w3 HW3.out 4
      have q5 := HC.out w3 HW3.out 5
      have p5 := HC2.out w3 HW3.out 5
      go_wp2_with fail
      refine (live_any w3).mono ?_
      rintro r w4 ⟨rfl, hb⟩
      have HB4 := Lib.hid (HB3.out.trans (hb.mono HB3.out.size))
      clear hb
      go_wp2_with fail
      go_ret
      exact ⟨rfl, HB4.out⟩
    | true =>
      go_enter Try.func6, Try.ntmps6
      go_upto_region 1 with (fail)
      generalize hw1 : (w.alloc _).alloc _ = w1
      obtain ⟨hb1, hg, hr1, hr2, hcell, hcell2⟩ := HF.out w1 hw1
      have HB1 := Lib.hid hb1
      have HC := Lib.hid hcell
      have HC2 := Lib.hid hcell2
      have HW1 := Lib.hid (Below.refl w1.heap.size w1)
      clear hb1 hr1 hr2 hcell hcell2 hw1 HF
      have q0 := HC.out w1 HW1.out 0
      have p0 := HC2.out w1 HW1.out 0
      have q1 := HC.out w1 HW1.out 1
      have p1 := HC2.out w1 HW1.out 1
      have q2 := HC.out w1 HW1.out 2
      have p2 := HC2.out w1 HW1.out 2
      have q3 := HC.out w1 HW1.out 3
      have p3 := HC2.out w1 HW1.out 3
      have q4 := HC.out w1 HW1.out 4
      have p4 := HC2.out w1 HW1.out 4
      have q5 := HC.out w1 HW1.out 5
      have p5 := HC2.out w1 HW1.out 5
      go_wp2_with fail
      refine (HTX.out w1 HB1.out).mono ?_
      rintro r w2 ⟨rfl, hb⟩
      have HB2 := Lib.hid (HB1.out.trans (hb.mono HB1.out.size))
      have HW2 := Lib.hid (HW1.out.trans (hb.mono HW1.out.size))
      clear hb q0 q1 q2 q3 q4 q5 p0 p1 p2 p3 p4 p5
      have q0 := HC.out w2 HW2.out 0
      have p0 := HC2.out w2 HW2.out 0
      have q1 := HC.out w2 HW2.out 1
      have p1 := HC2.out w2 HW2.out 1
      have q2 := HC.out w2 HW2.out 2
      have p2 := HC2.out w2 HW2.out 2
      have q3 := HC.out w2 HW2.out 3
      have p3 := HC2.out w2 HW2.out 3
      have q4 := HC.out w2 HW2.out 4
      have p4 := HC2.out w2 HW2.out 4
      have q5 := HC.out w2 HW2.out 5
      have p5 := HC2.out w2 HW2.out 5
      go_wp2_with fail
      refine (HTY.out w2 HB2.out).mono ?_
      rintro r w3 ⟨rfl, hb⟩
      have HB3 := Lib.hid (HB2.out.trans (hb.mono HB2.out.size))
      have HW3 := Lib.hid (HW2.out.trans (hb.mono HW2.out.size))
      clear hb q0 q1 q2 q3 q4 q5 p0 p1 p2 p3 p4 p5
      have q0 := HC.out w3 HW3.out 0
      have p0 := HC2.out w3 HW3.out 0
      have q1 := HC.out w3 HW3.out 1
      have p1 := HC2.out w3 HW3.out 1
      have q2 := HC.out w3 HW3.out 2
      have p2 := HC2.out w3 HW3.out 2
      have q3 := HC.out w3 HW3.out 3
      have p3 := HC2.out w3 HW3.out 3
      have q4 := HC.out w3 HW3.out 4
      have p4 := HC2.out w3 HW3.out 4
      have q5 := HC.out w3 HW3.out 5
      have p5 := HC2.out w3 HW3.out 5
      have HBQ := Lib.hid fun d os => HB3.out.trans ((below_regrown w3 d os).mono HB3.out.size)
      have cA := fun d os => Calls.regrown_of (HS1.out (grow (redrawn w3 d) os) (HBQ.out d os))
      have cB := fun d os => Calls.regrown_of (HS2.out (grow (redrawn w3 d) os) (HBQ.out d os))
      have cC := fun d os => Calls.regrown_of (HS3.out (grow (redrawn w3 d) os) (HBQ.out d os))
      have cD := fun d os => Calls.regrown_of (live_any (grow (redrawn w3 d) os))
      have lq0 := fun d os => cell_regrown q0 d os
      have lp0 := fun d os => cell_regrown p0 d os
      have lq1 := fun d os => cell_regrown q1 d os
      have lp1 := fun d os => cell_regrown p1 d os
      have lq2 := fun d os => cell_regrown q2 d os
      have lp2 := fun d os => cell_regrown p2 d os
      have lq3 := fun d os => cell_regrown q3 d os
      have lp3 := fun d os => cell_regrown p3 d os
      have lq4 := fun d os => cell_regrown q4 d os
      have lp4 := fun d os => cell_regrown p4 d os
      have lq5 := fun d os => cell_regrown q5 d os
      have lp5 := fun d os => cell_regrown p5 d os
      cases s
      all_goals (
        go_wp2_with fail
        refine wp_region_quiet_below (by kernel_rfl) (by kernel_rfl) ?_
        repeat (quiet_step (first | with_reducible exact cA _ _ | with_reducible exact cB _ _ | with_reducible exact cC _ _ | with_reducible exact cD _ _))
        refine wpQuiet_nil ?_
        intro _ hw'
        obtain ⟨⟨dq, osq⟩, hw''⟩ := hw'
        subst hw''
        have HBR := Lib.hid (HBQ.out dq osq)
        clear cA cB cC cD lq0 lp0 lq1 lp1 lq2 lp2 lq3 lp3 lq4 lp4 lq5 lp5
        generalize grow (redrawn w3 dq) osq = wq at *
        go_wp2_with fail
        go_ret
        exact ⟨rfl, HBR.out⟩)

set_option maxRecDepth 100000 in
set_option maxHeartbeats 2000000 in
theorem walkRight (x : Ex) (A : Option Addr) (ca : Nat) (B : Option Addr) (cb : Nat) (w : World) (hr : rdX w x A B) :
    Calls Try.prog 3 #[.agg (exA x A ca B cb)] w fun e w' => e = .returned (.bool true) ∧ Below w.heap.size w w' := by
  have HF := Lib.hid fun w1 h => box_facts w x A ca B cb w1 h hr
  have HTX := Lib.hid fun w1 (h : Below w.heap.size w w1) => refSmall x A ca B cb w1 (hr.below h)
  have HS1 := Lib.hid fun (ht : tinyX x = true) w1 (h : Below w.heap.size w w1) => refRight x A ca B cb w1 (hr.below h) (tiny_size ht) (tiny_short ht)
  have HS2 := Lib.hid fun (ht : tinyX x = true) w1 (h : Below w.heap.size w w1) => exRight x A ca B cb w1 (hr.below h) (tiny_size ht) (tiny_short ht)
  have HS3 := Lib.hid fun w1 (h : Below w.heap.size w w1) => refConst x A ca B cb w1 (hr.below h)
  have HS4 := Lib.hid fun w1 (h : Below w.heap.size w w1) => exConst x A ca B cb w1 (hr.below h)
  clear hr
  unfold exA at HF HTX HS1 HS2 HS3 HS4 ⊢
  generalize tinyX x = tx at *
  generalize rightX x = s at *
  generalize constX x = c at *
  cases tx with
  | false =>
    go_enter Try.func3, Try.ntmps3
    go_upto_region 1 with (fail)
    generalize hw1 : w.alloc _ = w1
    obtain ⟨hb1, hg, hr1, hcell⟩ := HF.out w1 hw1
    have HB1 := Lib.hid hb1
    have HC := Lib.hid hcell
    have HW1 := Lib.hid (Below.refl w1.heap.size w1)
    clear hb1 hr1 hcell hw1 HF
    have q0 := HC.out w1 HW1.out 0
    have q1 := HC.out w1 HW1.out 1
    have q2 := HC.out w1 HW1.out 2
    have q3 := HC.out w1 HW1.out 3
    have q4 := HC.out w1 HW1.out 4
    have q5 := HC.out w1 HW1.out 5
    go_wp2_with fail
    refine (HTX.out w1 HB1.out).mono ?_
    rintro r w2 ⟨rfl, hb⟩
    have HB2 := Lib.hid (HB1.out.trans (hb.mono HB1.out.size))
    have HW2 := Lib.hid (HW1.out.trans (hb.mono HW1.out.size))
    clear hb q0 q1 q2 q3 q4 q5
    have q0 := HC.out w2 HW2.out 0
    have q1 := HC.out w2 HW2.out 1
    have q2 := HC.out w2 HW2.out 2
    have q3 := HC.out w2 HW2.out 3
    have q4 := HC.out w2 HW2.out 4
    have q5 := HC.out w2 HW2.out 5
    go_wp2_with fail
    refine (live_any w2).mono ?_
    rintro r w3 ⟨rfl, hb⟩
    have HB3 := Lib.hid (HB2.out.trans (hb.mono HB2.out.size))
    clear hb
    go_wp2_with fail
    go_ret
    exact ⟨rfl, HB3.out⟩
  | true =>
    go_enter Try.func3, Try.ntmps3
    go_upto_region 1 with (fail)
    generalize hw1 : w.alloc _ = w1
    obtain ⟨hb1, hg, hr1, hcell⟩ := HF.out w1 hw1
    have HB1 := Lib.hid hb1
    have HC := Lib.hid hcell
    have HW1 := Lib.hid (Below.refl w1.heap.size w1)
    clear hb1 hr1 hcell hw1 HF
    have q0 := HC.out w1 HW1.out 0
    have q1 := HC.out w1 HW1.out 1
    have q2 := HC.out w1 HW1.out 2
    have q3 := HC.out w1 HW1.out 3
    have q4 := HC.out w1 HW1.out 4
    have q5 := HC.out w1 HW1.out 5
    go_wp2_with fail
    refine (HTX.out w1 HB1.out).mono ?_
    rintro r w2 ⟨rfl, hb⟩
    have HB2 := Lib.hid (HB1.out.trans (hb.mono HB1.out.size))
    have HW2 := Lib.hid (HW1.out.trans (hb.mono HW1.out.size))
    clear hb q0 q1 q2 q3 q4 q5
    have q0 := HC.out w2 HW2.out 0
    have q1 := HC.out w2 HW2.out 1
    have q2 := HC.out w2 HW2.out 2
    have q3 := HC.out w2 HW2.out 3
    have q4 := HC.out w2 HW2.out 4
    have q5 := HC.out w2 HW2.out 5
    have HBQ := Lib.hid fun d os => HB2.out.trans ((below_regrown w2 d os).mono HB2.out.size)
    have cA := fun d os => Calls.regrown_of (HS1.out (by first | trivial | rfl) (grow (redrawn w2 d) os) (HBQ.out d os))
    have cB := fun d os => Calls.regrown_of (HS2.out (by first | trivial | rfl) (grow (redrawn w2 d) os) (HBQ.out d os))
    have cC := fun d os => Calls.regrown_of (HS3.out (grow (redrawn w2 d) os) (HBQ.out d os))
    have cE := fun d os => Calls.regrown_of (HS4.out (grow (redrawn w2 d) os) (HBQ.out d os))
    have cD := fun d os => Calls.regrown_of (live_any (grow (redrawn w2 d) os))
    have lq0 := fun d os => cell_regrown q0 d os
    have lq1 := fun d os => cell_regrown q1 d os
    have lq2 := fun d os => cell_regrown q2 d os
    have lq3 := fun d os => cell_regrown q3 d os
    have lq4 := fun d os => cell_regrown q4 d os
    have lq5 := fun d os => cell_regrown q5 d os
    cases s <;> cases c
    all_goals (
      go_wp2_with fail
      refine wp_region_quiet_below (by kernel_rfl) (by kernel_rfl) ?_
      repeat (quiet_step (first | with_reducible exact cA _ _ | with_reducible exact cB _ _ | with_reducible exact cC _ _ | with_reducible exact cE _ _ | with_reducible exact cD _ _))
      refine wpQuiet_nil ?_
      intro _ hw'
      obtain ⟨⟨dq, osq⟩, hw''⟩ := hw'
      subst hw''
      have HBR := Lib.hid (HBQ.out dq osq)
      clear cE cA cB cC cD lq0 lq1 lq2 lq3 lq4 lq5
      generalize grow (redrawn w2 dq) osq = wq at *
      go_wp2_with fail
      go_ret
      exact ⟨rfl, HBR.out⟩)

end Go.Proofs.Ythihkpigikhflaa
