/- The powers of ten, out of a row's list. Conditions: none. The walks of ShowTexts, ShowOn and ShowApart. Conditions: the powers of ten lie as laid. -/
import Derived.Test.YtijbahdpblopjaaGreatDoorSpG
import Derived.LaidSub
import Derived.Test.YtijbahdpblopjaaGreatDoorSpH
import Derived.Test.YtijbahdpblopjaaGreatDoorExC
namespace Go.Proofs.YtijbahdpblopjaaGreatDoor
open Go.RowKit Go.ChangeShapes Go.WideShapes Go.Deep
set_option linter.unusedVariables false

/-- The powers of ten lie as laid, where a row's list is met. -/
theorem tab_of_laid {W : World} (h : laidMetH Tryz.prog Rows.showTextsRow.laid W) : Tab W := by
  have h1 := h.filter (fun x => x.1 == powN)
  have e : Rows.showTextsRow.laid.filter (fun x => x.1 == powN) = [(powN, Lib.tabData .u64 Lib.pow10Tab)] := by kernel_rfl
  rw [e] at h1
  have h2 : laidMet Tryz.prog [(powN, Lib.tabData .u64 Lib.pow10Tab)] W := (laidMetH_iff.1 h1).1
  exact Lib.tabIs_of_head (t := 76) (e := 61) (n := 20) pow_named (by kernel_rfl) Tryz.underlying76 Tryz.underlying61 (by kernel_rfl) (by kernel_rfl) h2

end Go.Proofs.YtijbahdpblopjaaGreatDoor

namespace Go.Proofs.YtijbahdpblopjaaGreatDoor
open Go.RowKit Go.Sort
set_option linter.unusedVariables false
set_option linter.unusedSimpArgs false

theorem tiny_size {x : Ex} (h : tinyX x = true) : sizeX x ≤ 1000000 := by
  simp only [tinyX, Bool.and_eq_true, decide_eq_true_eq] at h
  omega
theorem tiny_short {x : Ex} (h : tinyX x = true) : ∀ p ∈ partsX x, ShortP p := by
  simp only [tinyX, Bool.and_eq_true, List.all_eq_true] at h
  exact fun p hp => ShortP.of_few (h.2 p hp)
theorem num_of {x : Ex} (hok : OkX x) (hsh : ∀ p ∈ partsX x, ShortP p) : ∀ p ∈ partsX x, NumP p := fun p hp => by
  have h := (hok p hp).2.2.2.1
  simp [Lit.wf, IntKind.min, IntKind.max, IntKind.signed, IntKind.bits] at h
  exact ⟨(hsh p hp).1, by omega, by omega⟩

set_option maxRecDepth 100000 in
set_option maxHeartbeats 4000000 in
theorem walkTexts (x : Ex) (A : Option Addr) (ca : Nat) (B : Option Addr) (cb : Nat) (w : World) (hr : rdX w x A B) (hok : OkX x) (hcb : x.subs.length ≤ cb) (hc : capX w x B) (hTab : Tab w) :
    Calls Tryz.prog 3 #[.agg (exA x A ca B cb)] w fun e w' => e = .returned (.bool true) ∧ Below w.heap.size w w' := by
  have HTB := Lib.hid hTab
  have HF := Lib.hid fun w1 h => box_facts w x A ca B cb w1 h hr
  have HTX := Lib.hid fun w1 (h : Below w.heap.size w w1) => refSmall x A ca B cb w1 (hr.below h)
  have HS1 := Lib.hid fun (ht : tinyX x = true) w1 (h : Below w.heap.size w w1) => shExpr x A ca B cb w1 (hr.below h) (tiny_size ht) (tiny_short ht) (num_of hok (tiny_short ht)) (hTab.below h)
  have HS2 := Lib.hid fun (ht : tinyX x = true) w1 (h : Below w.heap.size w w1) => refExpr x A ca B cb w1 (hr.below h) hcb (hc.below hr h) (tiny_size ht) (tiny_short ht) (num_of hok (tiny_short ht))
  clear hr hc hok hTab
  unfold exA at HF HTX HS1 HS2 ⊢
  generalize tinyX x = tx at *
  generalize textS x = ts at *
  have hts : (ts.toList == ts.toList) = true := by simp
  cases tx with
  | false =>
    go_enter Tryz.func3, Tryz.ntmps3
    go_upto_region 1 with (fail)
    generalize hw1 : w.alloc _ = w1
    obtain ⟨hb1, hg, hr1, hcell⟩ := HF.out w1 hw1
    have HB1 := Lib.hid hb1
    have HC := Lib.hid hcell
    have HW1 := Lib.hid (Below.refl w1.heap.size w1)
    clear hb1 hr1 hcell hw1 HF
    have q0 := HC.out w1 HW1.out 0
    have q1 := HC.out w1 HW1.out 1
    have q2 := HC.out w1 HW1.out 2
    have q3 := HC.out w1 HW1.out 3
    have q4 := HC.out w1 HW1.out 4
    have q5 := HC.out w1 HW1.out 5
    go_wp2_with fail
    refine (HTX.out w1 HB1.out).mono ?_
    rintro r w2 ⟨rfl, hb⟩
    have HB2 := Lib.hid (HB1.out.trans (hb.mono HB1.out.size))
    have HW2 := Lib.hid (HW1.out.trans (hb.mono HW1.out.size))
    clear hb
    clear q0 q1 q2 q3 q4 q5
    have q0 := HC.out w2 HW2.out 0
    have q1 := HC.out w2 HW2.out 1
    have q2 := HC.out w2 HW2.out 2
    have q3 := HC.out w2 HW2.out 3
    have q4 := HC.out w2 HW2.out 4
    have q5 := HC.out w2 HW2.out 5
    go_wp2_with fail
    refine (live_any w2 (HTB.out.below HB2.out)).mono ?_
    rintro r w3 ⟨rfl, hb⟩
    have HB3 := Lib.hid (HB2.out.trans (hb.mono HB2.out.size))
    clear hb
    go_wp2_with fail
    go_ret
    exact ⟨rfl, HB3.out⟩
  | true =>
    go_enter Tryz.func3, Tryz.ntmps3
    go_upto_region 1 with (fail)
    generalize hw1 : w.alloc _ = w1
    obtain ⟨hb1, hg, hr1, hcell⟩ := HF.out w1 hw1
    have HB1 := Lib.hid hb1
    have HC := Lib.hid hcell
    have HW1 := Lib.hid (Below.refl w1.heap.size w1)
    clear hb1 hr1 hcell hw1 HF
    have q0 := HC.out w1 HW1.out 0
    have q1 := HC.out w1 HW1.out 1
    have q2 := HC.out w1 HW1.out 2
    have q3 := HC.out w1 HW1.out 3
    have q4 := HC.out w1 HW1.out 4
    have q5 := HC.out w1 HW1.out 5
    go_wp2_with fail
    refine (HTX.out w1 HB1.out).mono ?_
    rintro r w2 ⟨rfl, hb⟩
    have HB2 := Lib.hid (HB1.out.trans (hb.mono HB1.out.size))
    have HW2 := Lib.hid (HW1.out.trans (hb.mono HW1.out.size))
    clear hb
    clear q0 q1 q2 q3 q4 q5
    have q0 := HC.out w2 HW2.out 0
    have q1 := HC.out w2 HW2.out 1
    have q2 := HC.out w2 HW2.out 2
    have q3 := HC.out w2 HW2.out 3
    have q4 := HC.out w2 HW2.out 4
    have q5 := HC.out w2 HW2.out 5
    have HBQ := Lib.hid fun d os => HB2.out.trans ((below_regrown w2 d os).mono HB2.out.size)
    have cA := fun d os => Calls.regrown_of (HS1.out (by first | trivial | rfl) (grow (redrawn w2 d) os) (HBQ.out d os))
    have cB := fun d os => Calls.regrown_of (HS2.out (by first | trivial | rfl) (grow (redrawn w2 d) os) (HBQ.out d os))
    have cD := fun d os => Calls.regrown_of (live_any (grow (redrawn w2 d) os) (HTB.out.below (HBQ.out d os)))
    have lq0 := fun d os => cell_regrown q0 d os
    have lq1 := fun d os => cell_regrown q1 d os
    have lq2 := fun d os => cell_regrown q2 d os
    have lq3 := fun d os => cell_regrown q3 d os
    have lq4 := fun d os => cell_regrown q4 d os
    have lq5 := fun d os => cell_regrown q5 d os
    go_wp2_with fail
    refine wp_region_quiet_below (by kernel_rfl) (by kernel_rfl) ?_
    repeat (quiet_step (first | with_reducible exact cA _ _ | with_reducible exact cB _ _ | with_reducible exact cD _ _))
    refine wpQuiet_nil ?_
    intro _ hw'
    obtain ⟨⟨dq, osq⟩, hw''⟩ := hw'
    subst hw''
    have HBR := Lib.hid (HBQ.out dq osq)
    clear cA cB cD lq0 lq1 lq2 lq3 lq4 lq5
    generalize grow (redrawn w2 dq) osq = wq at *
    go_wp2_with fail
    go_ret
    exact ⟨rfl, HBR.out⟩

end Go.Proofs.YtijbahdpblopjaaGreatDoor
