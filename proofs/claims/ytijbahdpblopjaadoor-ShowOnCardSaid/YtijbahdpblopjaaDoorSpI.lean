/- The powers of ten, out of a row's list. Conditions: none. The walks of ShowTexts, ShowOn and ShowApart. Conditions: the powers of ten lie as laid. -/
import Derived.Test.YtijbahdpblopjaaDoorSpG
import Derived.LaidSub
import Derived.Test.YtijbahdpblopjaaDoorSpH
import Derived.Test.YtijbahdpblopjaaDoorExC
namespace Go.Proofs.YtijbahdpblopjaaDoor
open Go.RowKit Go.ChangeShapes Go.WideShapes Go.Deep
set_option linter.unusedVariables false

/-- The powers of ten lie as laid, where a row's list is met. -/
theorem tab_of_laid {W : World} (h : laidMetH Tryd.prog Rows.showOnRow.laid W) : Tab W := by
  have h1 := h.filter (fun x => x.1 == powN)
  have e : Rows.showOnRow.laid.filter (fun x => x.1 == powN) = [(powN, Lib.tabData .u64 Lib.pow10Tab)] := by kernel_rfl
  rw [e] at h1
  have h2 : laidMet Tryd.prog [(powN, Lib.tabData .u64 Lib.pow10Tab)] W := (laidMetH_iff.1 h1).1
  exact Lib.tabIs_of_head (t := 89) (e := 75) (n := 20) pow_named (by kernel_rfl) Tryd.underlying89 Tryd.underlying75 (by kernel_rfl) (by kernel_rfl) h2

end Go.Proofs.YtijbahdpblopjaaDoor

namespace Go.Proofs.YtijbahdpblopjaaDoor
open Go.RowKit Go.Sort
set_option linter.unusedVariables false
set_option linter.unusedSimpArgs false

theorem tiny_size {x : Ex} (h : tinyX x = true) : sizeX x ≤ 1000000 := by
  simp only [tinyX, Bool.and_eq_true, decide_eq_true_eq] at h
  omega
theorem tiny_short {x : Ex} (h : tinyX x = true) : ∀ p ∈ partsX x, ShortP p := by
  simp only [tinyX, Bool.and_eq_true, List.all_eq_true] at h
  exact fun p hp => ShortP.of_few (h.2 p hp)
theorem num_of {x : Ex} (hok : OkX x) (hsh : ∀ p ∈ partsX x, ShortP p) : ∀ p ∈ partsX x, NumP p := fun p hp => by
  have h := (hok p hp).2.2.2.1
  simp [Lit.wf, IntKind.min, IntKind.max, IntKind.signed, IntKind.bits] at h
  exact ⟨(hsh p hp).1, by omega, by omega⟩

set_option maxRecDepth 100000 in
set_option maxHeartbeats 4000000 in
theorem walkOn (name arm : ByteArray) (w : World) (hTab : Tab w) : Calls Tryd.prog 3 #[.string name, .string arm] w fun e w' => e = .returned (.bool true) ∧ Below w.heap.size w w' := by
  have HTB := Lib.hid hTab
  clear hTab
  by_cases h1 : 500 < name.size
  · have d1 : decide ((500 : Int) < (name.size : Int)) = true := decide_eq_true (by omega)
    have d1' : decide (500 < name.size) = true := decide_eq_true h1
    go_enter Tryd.func3, Tryd.ntmps3
    go_wp2_with fail
    refine (live_any w HTB.out).mono ?_
    rintro r w3 ⟨rfl, hb⟩
    have HB3 := Lib.hid hb
    clear hb
    go_wp2_with fail
    go_ret
    exact ⟨rfl, HB3.out⟩
  · have d1 : decide ((500 : Int) < (name.size : Int)) = false := decide_eq_false (by omega)
    have d1' : decide (500 < name.size) = false := decide_eq_false h1
    by_cases h2 : 500 < arm.size
    · have d2 : decide ((500 : Int) < (arm.size : Int)) = true := decide_eq_true (by omega)
      have d2' : decide (500 < arm.size) = true := decide_eq_true h2
      go_enter Tryd.func3, Tryd.ntmps3
      go_wp2_with fail
      refine (live_any w HTB.out).mono ?_
      rintro r w3 ⟨rfl, hb⟩
      have HB3 := Lib.hid hb
      clear hb
      go_wp2_with fail
      go_ret
      exact ⟨rfl, HB3.out⟩
    · have d2 : decide ((500 : Int) < (arm.size : Int)) = false := decide_eq_false (by omega)
      have d2' : decide (500 < arm.size) = false := decide_eq_false h2
      have HA := Lib.hid fun w => shOn name arm w (by omega) (by omega)
      have HR := Lib.hid fun w => refOn name arm w (by omega) (by omega)
      generalize ofB (onL name.data.toList arm.data.toList) = so at *
      have hts : (so.toList == so.toList) = true := by simp
      go_enter Tryd.func3, Tryd.ntmps3
      go_wp2_with fail
      refine (HA.out w).mono ?_
      rintro r w2 ⟨rfl, hb⟩
      have HB2 := Lib.hid hb
      clear hb
      go_wp2_with fail
      refine (HR.out w2).mono ?_
      rintro r w3 ⟨rfl, hb⟩
      have HB3 := Lib.hid (HB2.out.trans (hb.mono HB2.out.size))
      clear hb
      go_wp2_with fail
      refine (live_any w3 (HTB.out.below HB3.out)).mono ?_
      rintro r w4 ⟨rfl, hb⟩
      have HB4 := Lib.hid (HB3.out.trans (hb.mono HB3.out.size))
      clear hb
      go_wp2_with fail
      go_ret
      exact ⟨rfl, HB4.out⟩

set_option maxRecDepth 100000 in
set_option maxHeartbeats 4000000 in
theorem walkApart (x : Ex) (A : Option Addr) (ca : Nat) (B : Option Addr) (cb : Nat) (y : Ex) (A' : Option Addr) (ca' : Nat) (B' : Option Addr) (cb' : Nat) (w : World)
    (hr : rdX w x A B) (hok : OkX x) (hcb : x.subs.length ≤ cb) (hc : capX w x B) (hr' : rdX w y A' B') (hok' : OkX y) (hcb' : y.subs.length ≤ cb') (hc' : capX w y B') (hTab : Tab w) :
    Calls Tryd.prog 4 #[.agg (exA x A ca B cb), .agg (exA y A' ca' B' cb')] w fun e w' => e = .returned (.bool true) ∧ Below w.heap.size w w' := by
  have HTB := Lib.hid hTab
  have HF := Lib.hid fun w1 h => box2_facts w x y A A' ca ca' B B' cb cb' w1 h hr hr'
  have HTX := Lib.hid fun w1 (h : Below w.heap.size w w1) => refSmall x A ca B cb w1 (hr.below h)
  have HTY := Lib.hid fun w1 (h : Below w.heap.size w w1) => refSmall y A' ca' B' cb' w1 (hr'.below h)
  have HRX := Lib.hid fun (ht : tinyX x = true) w1 (h : Below w.heap.size w w1) => refRight x A ca B cb w1 (hr.below h) (tiny_size ht) (tiny_short ht)
  have HRY := Lib.hid fun (ht : tinyX y = true) w1 (h : Below w.heap.size w w1) => refRight y A' ca' B' cb' w1 (hr'.below h) (tiny_size ht) (tiny_short ht)
  have HSX := Lib.hid fun (ht : tinyX x = true) w1 (h : Below w.heap.size w w1) => shExpr x A ca B cb w1 (hr.below h) (tiny_size ht) (tiny_short ht) (num_of hok (tiny_short ht)) (hTab.below h)
  have HSY := Lib.hid fun (ht : tinyX y = true) w1 (h : Below w.heap.size w w1) => shExpr y A' ca' B' cb' w1 (hr'.below h) (tiny_size ht) (tiny_short ht) (num_of hok' (tiny_short ht)) (hTab.below h)
  have HSM := Lib.hid fun w1 (h : Below w.heap.size w w1) => refSame x A ca B cb y A' ca' B' cb' w1 (hr.below h) (hr'.below h)
  have HAP := Lib.hid fun (h1 : rightX x = true) (h2 : rightX y = true) => (show ((textS x).toList == (textS y).toList) = sameX x y by
    unfold textS
    rw [if_pos h1, if_pos h2, Lib.toList_data, Lib.toList_data, ofB_data, ofB_data]
    exact text_apart h1 h2)
  have HNE := Lib.hid fun (h1 : rightX x = true) => (show ((textS x).toList == ([] : List UInt8)) = false by
    unfold textS
    rw [if_pos h1, Lib.toList_data, ofB_data]
    simpa using text_some (right_ok h1))
  clear hr hc hok hr' hc' hok' hTab
  unfold exA at HF HTX HTY HRX HRY HSX HSY HSM ⊢
  generalize tinyX x = tx at *
  generalize tinyX y = ty at *
  generalize rightX x = rx at *
  generalize rightX y = ry at *
  generalize sameX x y = sm at *
  generalize textS x = sa at *
  generalize textS y = sb at *
  cases tx with
  | false =>
    go_enter Tryd.func4, Tryd.ntmps4
    go_upto_region 1 with (fail)
    generalize hw1 : (w.alloc _).alloc _ = w1
    obtain ⟨hb1, hg, hr1, hr2, hcell, hcell2⟩ := HF.out w1 hw1
    have HB1 := Lib.hid hb1
    have HC := Lib.hid hcell
    have HC2 := Lib.hid hcell2
    have HW1 := Lib.hid (Below.refl w1.heap.size w1)
    clear hb1 hr1 hr2 hcell hcell2 hw1 HF
    have q0 := HC.out w1 HW1.out 0
    have q1 := HC.out w1 HW1.out 1
    have q2 := HC.out w1 HW1.out 2
    have q3 := HC.out w1 HW1.out 3
    have q4 := HC.out w1 HW1.out 4
    have q5 := HC.out w1 HW1.out 5
    have p0 := HC2.out w1 HW1.out 0
    have p1 := HC2.out w1 HW1.out 1
    have p2 := HC2.out w1 HW1.out 2
    have p3 := HC2.out w1 HW1.out 3
    have p4 := HC2.out w1 HW1.out 4
    have p5 := HC2.out w1 HW1.out 5
    go_wp2_with fail
    refine (HTX.out w1 HB1.out).mono ?_
    rintro r w2 ⟨rfl, hb⟩
    have HB2 := Lib.hid (HB1.out.trans (hb.mono HB1.out.size))
    have HW2 := Lib.hid (HW1.out.trans (hb.mono HW1.out.size))
    clear hb
    clear q0 q1 q2 q3 q4 q5 p0 p1 p2 p3 p4 p5
    have q0 := HC.out w2 HW2.out 0
    have q1 := HC.out w2 HW2.out 1
    have q2 := HC.out w2 HW2.out 2
    have q3 := HC.out w2 HW2.out 3
    have q4 := HC.out w2 HW2.out 4
    have q5 := HC.out w2 HW2.out 5
    have p0 := HC2.out w2 HW2.out 0
    have p1 := HC2.out w2 HW2.out 1
    have p2 := HC2.out w2 HW2.out 2
    have p3 := HC2.out w2 HW2.out 3
    have p4 := HC2.out w2 HW2.out 4
    have p5 := HC2.out w2 HW2.out 5
    go_wp2_with fail
    refine (live_any w2 (HTB.out.below HB2.out)).mono ?_
    rintro r w9 ⟨rfl, hb⟩
    have HB9 := Lib.hid (HB2.out.trans (hb.mono HB2.out.size))
    clear hb
    go_wp2_with fail
    go_ret
    exact ⟨rfl, HB9.out⟩
  | true =>
    cases ty with
    | false =>
      go_enter Tryd.func4, Tryd.ntmps4
      go_upto_region 1 with (fail)
      generalize hw1 : (w.alloc _).alloc _ = w1
      obtain ⟨hb1, hg, hr1, hr2, hcell, hcell2⟩ := HF.out w1 hw1
      have HB1 := Lib.hid hb1
      have HC := Lib.hid hcell
      have HC2 := Lib.hid hcell2
      have HW1 := Lib.hid (Below.refl w1.heap.size w1)
      clear hb1 hr1 hr2 hcell hcell2 hw1 HF
      have q0 := HC.out w1 HW1.out 0
      have q1 := HC.out w1 HW1.out 1
      have q2 := HC.out w1 HW1.out 2
      have q3 := HC.out w1 HW1.out 3
      have q4 := HC.out w1 HW1.out 4
      have q5 := HC.out w1 HW1.out 5
      have p0 := HC2.out w1 HW1.out 0
      have p1 := HC2.out w1 HW1.out 1
      have p2 := HC2.out w1 HW1.out 2
      have p3 := HC2.out w1 HW1.out 3
      have p4 := HC2.out w1 HW1.out 4
      have p5 := HC2.out w1 HW1.out 5
      go_wp2_with fail
      refine (HTX.out w1 HB1.out).mono ?_
      rintro r w2 ⟨rfl, hb⟩
      have HB2 := Lib.hid (HB1.out.trans (hb.mono HB1.out.size))
      have HW2 := Lib.hid (HW1.out.trans (hb.mono HW1.out.size))
      clear hb
      clear q0 q1 q2 q3 q4 q5 p0 p1 p2 p3 p4 p5
      have q0 := HC.out w2 HW2.out 0
      have q1 := HC.out w2 HW2.out 1
      have q2 := HC.out w2 HW2.out 2
      have q3 := HC.out w2 HW2.out 3
      have q4 := HC.out w2 HW2.out 4
      have q5 := HC.out w2 HW2.out 5
      have p0 := HC2.out w2 HW2.out 0
      have p1 := HC2.out w2 HW2.out 1
      have p2 := HC2.out w2 HW2.out 2
      have p3 := HC2.out w2 HW2.out 3
      have p4 := HC2.out w2 HW2.out 4
      have p5 := HC2.out w2 HW2.out 5
      go_wp2_with fail
      refine (HTY.out w2 HB2.out).mono ?_
      rintro r w3 ⟨rfl, hb⟩
      have HB3 := Lib.hid (HB2.out.trans (hb.mono HB2.out.size))
      have HW3 := Lib.hid (HW2.out.trans (hb.mono HW2.out.size))
      clear hb
      clear q0 q1 q2 q3 q4 q5 p0 p1 p2 p3 p4 p5
      have q0 := HC.out w3 HW3.out 0
      have q1 := HC.out w3 HW3.out 1
      have q2 := HC.out w3 HW3.out 2
      have q3 := HC.out w3 HW3.out 3
      have q4 := HC.out w3 HW3.out 4
      have q5 := HC.out w3 HW3.out 5
      have p0 := HC2.out w3 HW3.out 0
      have p1 := HC2.out w3 HW3.out 1
      have p2 := HC2.out w3 HW3.out 2
      have p3 := HC2.out w3 HW3.out 3
      have p4 := HC2.out w3 HW3.out 4
      have p5 := HC2.out w3 HW3.out 5
      go_wp2_with fail
      refine (live_any w3 (HTB.out.below HB3.out)).mono ?_
      rintro r w9 ⟨rfl, hb⟩
      have HB9 := Lib.hid (HB3.out.trans (hb.mono HB3.out.size))
      clear hb
      go_wp2_with fail
      go_ret
      exact ⟨rfl, HB9.out⟩
    | true =>
      cases rx with
      | false =>
        go_enter Tryd.func4, Tryd.ntmps4
        go_upto_region 1 with (fail)
        generalize hw1 : (w.alloc _).alloc _ = w1
        obtain ⟨hb1, hg, hr1, hr2, hcell, hcell2⟩ := HF.out w1 hw1
        have HB1 := Lib.hid hb1
        have HC := Lib.hid hcell
        have HC2 := Lib.hid hcell2
        have HW1 := Lib.hid (Below.refl w1.heap.size w1)
        clear hb1 hr1 hr2 hcell hcell2 hw1 HF
        have q0 := HC.out w1 HW1.out 0
        have q1 := HC.out w1 HW1.out 1
        have q2 := HC.out w1 HW1.out 2
        have q3 := HC.out w1 HW1.out 3
        have q4 := HC.out w1 HW1.out 4
        have q5 := HC.out w1 HW1.out 5
        have p0 := HC2.out w1 HW1.out 0
        have p1 := HC2.out w1 HW1.out 1
        have p2 := HC2.out w1 HW1.out 2
        have p3 := HC2.out w1 HW1.out 3
        have p4 := HC2.out w1 HW1.out 4
        have p5 := HC2.out w1 HW1.out 5
        go_wp2_with fail
        refine (HTX.out w1 HB1.out).mono ?_
        rintro r w2 ⟨rfl, hb⟩
        have HB2 := Lib.hid (HB1.out.trans (hb.mono HB1.out.size))
        have HW2 := Lib.hid (HW1.out.trans (hb.mono HW1.out.size))
        clear hb
        clear q0 q1 q2 q3 q4 q5 p0 p1 p2 p3 p4 p5
        have q0 := HC.out w2 HW2.out 0
        have q1 := HC.out w2 HW2.out 1
        have q2 := HC.out w2 HW2.out 2
        have q3 := HC.out w2 HW2.out 3
        have q4 := HC.out w2 HW2.out 4
        have q5 := HC.out w2 HW2.out 5
        have p0 := HC2.out w2 HW2.out 0
        have p1 := HC2.out w2 HW2.out 1
        have p2 := HC2.out w2 HW2.out 2
        have p3 := HC2.out w2 HW2.out 3
        have p4 := HC2.out w2 HW2.out 4
        have p5 := HC2.out w2 HW2.out 5
        go_wp2_with fail
        refine (HTY.out w2 HB2.out).mono ?_
        rintro r w3 ⟨rfl, hb⟩
        have HB3 := Lib.hid (HB2.out.trans (hb.mono HB2.out.size))
        have HW3 := Lib.hid (HW2.out.trans (hb.mono HW2.out.size))
        clear hb
        clear q0 q1 q2 q3 q4 q5 p0 p1 p2 p3 p4 p5
        have q0 := HC.out w3 HW3.out 0
        have q1 := HC.out w3 HW3.out 1
        have q2 := HC.out w3 HW3.out 2
        have q3 := HC.out w3 HW3.out 3
        have q4 := HC.out w3 HW3.out 4
        have q5 := HC.out w3 HW3.out 5
        have p0 := HC2.out w3 HW3.out 0
        have p1 := HC2.out w3 HW3.out 1
        have p2 := HC2.out w3 HW3.out 2
        have p3 := HC2.out w3 HW3.out 3
        have p4 := HC2.out w3 HW3.out 4
        have p5 := HC2.out w3 HW3.out 5
        go_wp2_with fail
        refine (HRX.out (by first | trivial | rfl) w3 HB3.out).mono ?_
        rintro r w4 ⟨rfl, hb⟩
        have HB4 := Lib.hid (HB3.out.trans (hb.mono HB3.out.size))
        have HW4 := Lib.hid (HW3.out.trans (hb.mono HW3.out.size))
        clear hb
        clear q0 q1 q2 q3 q4 q5 p0 p1 p2 p3 p4 p5
        have q0 := HC.out w4 HW4.out 0
        have q1 := HC.out w4 HW4.out 1
        have q2 := HC.out w4 HW4.out 2
        have q3 := HC.out w4 HW4.out 3
        have q4 := HC.out w4 HW4.out 4
        have q5 := HC.out w4 HW4.out 5
        have p0 := HC2.out w4 HW4.out 0
        have p1 := HC2.out w4 HW4.out 1
        have p2 := HC2.out w4 HW4.out 2
        have p3 := HC2.out w4 HW4.out 3
        have p4 := HC2.out w4 HW4.out 4
        have p5 := HC2.out w4 HW4.out 5
        go_wp2_with fail
        refine (live_any w4 (HTB.out.below HB4.out)).mono ?_
        rintro r w9 ⟨rfl, hb⟩
        have HB9 := Lib.hid (HB4.out.trans (hb.mono HB4.out.size))
        clear hb
        go_wp2_with fail
        go_ret
        exact ⟨rfl, HB9.out⟩
      | true =>
        cases ry with
        | false =>
          go_enter Tryd.func4, Tryd.ntmps4
          go_upto_region 1 with (fail)
          generalize hw1 : (w.alloc _).alloc _ = w1
          obtain ⟨hb1, hg, hr1, hr2, hcell, hcell2⟩ := HF.out w1 hw1
          have HB1 := Lib.hid hb1
          have HC := Lib.hid hcell
          have HC2 := Lib.hid hcell2
          have HW1 := Lib.hid (Below.refl w1.heap.size w1)
          clear hb1 hr1 hr2 hcell hcell2 hw1 HF
          have q0 := HC.out w1 HW1.out 0
          have q1 := HC.out w1 HW1.out 1
          have q2 := HC.out w1 HW1.out 2
          have q3 := HC.out w1 HW1.out 3
          have q4 := HC.out w1 HW1.out 4
          have q5 := HC.out w1 HW1.out 5
          have p0 := HC2.out w1 HW1.out 0
          have p1 := HC2.out w1 HW1.out 1
          have p2 := HC2.out w1 HW1.out 2
          have p3 := HC2.out w1 HW1.out 3
          have p4 := HC2.out w1 HW1.out 4
          have p5 := HC2.out w1 HW1.out 5
          go_wp2_with fail
          refine (HTX.out w1 HB1.out).mono ?_
          rintro r w2 ⟨rfl, hb⟩
          have HB2 := Lib.hid (HB1.out.trans (hb.mono HB1.out.size))
          have HW2 := Lib.hid (HW1.out.trans (hb.mono HW1.out.size))
          clear hb
          clear q0 q1 q2 q3 q4 q5 p0 p1 p2 p3 p4 p5
          have q0 := HC.out w2 HW2.out 0
          have q1 := HC.out w2 HW2.out 1
          have q2 := HC.out w2 HW2.out 2
          have q3 := HC.out w2 HW2.out 3
          have q4 := HC.out w2 HW2.out 4
          have q5 := HC.out w2 HW2.out 5
          have p0 := HC2.out w2 HW2.out 0
          have p1 := HC2.out w2 HW2.out 1
          have p2 := HC2.out w2 HW2.out 2
          have p3 := HC2.out w2 HW2.out 3
          have p4 := HC2.out w2 HW2.out 4
          have p5 := HC2.out w2 HW2.out 5
          go_wp2_with fail
          refine (HTY.out w2 HB2.out).mono ?_
          rintro r w3 ⟨rfl, hb⟩
          have HB3 := Lib.hid (HB2.out.trans (hb.mono HB2.out.size))
          have HW3 := Lib.hid (HW2.out.trans (hb.mono HW2.out.size))
          clear hb
          clear q0 q1 q2 q3 q4 q5 p0 p1 p2 p3 p4 p5
          have q0 := HC.out w3 HW3.out 0
          have q1 := HC.out w3 HW3.out 1
          have q2 := HC.out w3 HW3.out 2
          have q3 := HC.out w3 HW3.out 3
          have q4 := HC.out w3 HW3.out 4
          have q5 := HC.out w3 HW3.out 5
          have p0 := HC2.out w3 HW3.out 0
          have p1 := HC2.out w3 HW3.out 1
          have p2 := HC2.out w3 HW3.out 2
          have p3 := HC2.out w3 HW3.out 3
          have p4 := HC2.out w3 HW3.out 4
          have p5 := HC2.out w3 HW3.out 5
          go_wp2_with fail
          refine (HRX.out (by first | trivial | rfl) w3 HB3.out).mono ?_
          rintro r w4 ⟨rfl, hb⟩
          have HB4 := Lib.hid (HB3.out.trans (hb.mono HB3.out.size))
          have HW4 := Lib.hid (HW3.out.trans (hb.mono HW3.out.size))
          clear hb
          clear q0 q1 q2 q3 q4 q5 p0 p1 p2 p3 p4 p5
          have q0 := HC.out w4 HW4.out 0
          have q1 := HC.out w4 HW4.out 1
          have q2 := HC.out w4 HW4.out 2
          have q3 := HC.out w4 HW4.out 3
          have q4 := HC.out w4 HW4.out 4
          have q5 := HC.out w4 HW4.out 5
          have p0 := HC2.out w4 HW4.out 0
          have p1 := HC2.out w4 HW4.out 1
          have p2 := HC2.out w4 HW4.out 2
          have p3 := HC2.out w4 HW4.out 3
          have p4 := HC2.out w4 HW4.out 4
          have p5 := HC2.out w4 HW4.out 5
          go_wp2_with fail
          refine (HRY.out (by first | trivial | rfl) w4 HB4.out).mono ?_
          rintro r w5 ⟨rfl, hb⟩
          have HB5 := Lib.hid (HB4.out.trans (hb.mono HB4.out.size))
          have HW5 := Lib.hid (HW4.out.trans (hb.mono HW4.out.size))
          clear hb
          clear q0 q1 q2 q3 q4 q5 p0 p1 p2 p3 p4 p5
          have q0 := HC.out w5 HW5.out 0
          have q1 := HC.out w5 HW5.out 1
          have q2 := HC.out w5 HW5.out 2
          have q3 := HC.out w5 HW5.out 3
          have q4 := HC.out w5 HW5.out 4
          have q5 := HC.out w5 HW5.out 5
          have p0 := HC2.out w5 HW5.out 0
          have p1 := HC2.out w5 HW5.out 1
          have p2 := HC2.out w5 HW5.out 2
          have p3 := HC2.out w5 HW5.out 3
          have p4 := HC2.out w5 HW5.out 4
          have p5 := HC2.out w5 HW5.out 5
          go_wp2_with fail
          refine (live_any w5 (HTB.out.below HB5.out)).mono ?_
          rintro r w9 ⟨rfl, hb⟩
          have HB9 := Lib.hid (HB5.out.trans (hb.mono HB5.out.size))
          clear hb
          go_wp2_with fail
          go_ret
          exact ⟨rfl, HB9.out⟩
        | true =>
          have hap := HAP.out (by first | trivial | rfl) (by first | trivial | rfl)
          have hne := HNE.out (by first | trivial | rfl)
          have hne2 : sa.toList.isEmpty = false := by
            cases h : sa.toList with
            | nil => rw [h] at hne; simp at hne
            | cons c l => rfl
          have hne3 : (sa.toList != ([] : List UInt8)) = true := by rw [bne, hne]; rfl
          go_enter Tryd.func4, Tryd.ntmps4
          go_upto_region 1 with (fail)
          generalize hw1 : (w.alloc _).alloc _ = w1
          obtain ⟨hb1, hg, hr1, hr2, hcell, hcell2⟩ := HF.out w1 hw1
          have HB1 := Lib.hid hb1
          have HC := Lib.hid hcell
          have HC2 := Lib.hid hcell2
          have HW1 := Lib.hid (Below.refl w1.heap.size w1)
          clear hb1 hr1 hr2 hcell hcell2 hw1 HF
          have q0 := HC.out w1 HW1.out 0
          have q1 := HC.out w1 HW1.out 1
          have q2 := HC.out w1 HW1.out 2
          have q3 := HC.out w1 HW1.out 3
          have q4 := HC.out w1 HW1.out 4
          have q5 := HC.out w1 HW1.out 5
          have p0 := HC2.out w1 HW1.out 0
          have p1 := HC2.out w1 HW1.out 1
          have p2 := HC2.out w1 HW1.out 2
          have p3 := HC2.out w1 HW1.out 3
          have p4 := HC2.out w1 HW1.out 4
          have p5 := HC2.out w1 HW1.out 5
          go_wp2_with fail
          refine (HTX.out w1 HB1.out).mono ?_
          rintro r w2 ⟨rfl, hb⟩
          have HB2 := Lib.hid (HB1.out.trans (hb.mono HB1.out.size))
          have HW2 := Lib.hid (HW1.out.trans (hb.mono HW1.out.size))
          clear hb
          clear q0 q1 q2 q3 q4 q5 p0 p1 p2 p3 p4 p5
          have q0 := HC.out w2 HW2.out 0
          have q1 := HC.out w2 HW2.out 1
          have q2 := HC.out w2 HW2.out 2
          have q3 := HC.out w2 HW2.out 3
          have q4 := HC.out w2 HW2.out 4
          have q5 := HC.out w2 HW2.out 5
          have p0 := HC2.out w2 HW2.out 0
          have p1 := HC2.out w2 HW2.out 1
          have p2 := HC2.out w2 HW2.out 2
          have p3 := HC2.out w2 HW2.out 3
          have p4 := HC2.out w2 HW2.out 4
          have p5 := HC2.out w2 HW2.out 5
          go_wp2_with fail
          refine (HTY.out w2 HB2.out).mono ?_
          rintro r w3 ⟨rfl, hb⟩
          have HB3 := Lib.hid (HB2.out.trans (hb.mono HB2.out.size))
          have HW3 := Lib.hid (HW2.out.trans (hb.mono HW2.out.size))
          clear hb
          clear q0 q1 q2 q3 q4 q5 p0 p1 p2 p3 p4 p5
          have q0 := HC.out w3 HW3.out 0
          have q1 := HC.out w3 HW3.out 1
          have q2 := HC.out w3 HW3.out 2
          have q3 := HC.out w3 HW3.out 3
          have q4 := HC.out w3 HW3.out 4
          have q5 := HC.out w3 HW3.out 5
          have p0 := HC2.out w3 HW3.out 0
          have p1 := HC2.out w3 HW3.out 1
          have p2 := HC2.out w3 HW3.out 2
          have p3 := HC2.out w3 HW3.out 3
          have p4 := HC2.out w3 HW3.out 4
          have p5 := HC2.out w3 HW3.out 5
          go_wp2_with fail
          refine (HRX.out (by first | trivial | rfl) w3 HB3.out).mono ?_
          rintro r w4 ⟨rfl, hb⟩
          have HB4 := Lib.hid (HB3.out.trans (hb.mono HB3.out.size))
          have HW4 := Lib.hid (HW3.out.trans (hb.mono HW3.out.size))
          clear hb
          clear q0 q1 q2 q3 q4 q5 p0 p1 p2 p3 p4 p5
          have q0 := HC.out w4 HW4.out 0
          have q1 := HC.out w4 HW4.out 1
          have q2 := HC.out w4 HW4.out 2
          have q3 := HC.out w4 HW4.out 3
          have q4 := HC.out w4 HW4.out 4
          have q5 := HC.out w4 HW4.out 5
          have p0 := HC2.out w4 HW4.out 0
          have p1 := HC2.out w4 HW4.out 1
          have p2 := HC2.out w4 HW4.out 2
          have p3 := HC2.out w4 HW4.out 3
          have p4 := HC2.out w4 HW4.out 4
          have p5 := HC2.out w4 HW4.out 5
          go_wp2_with fail
          refine (HRY.out (by first | trivial | rfl) w4 HB4.out).mono ?_
          rintro r w5 ⟨rfl, hb⟩
          have HB5 := Lib.hid (HB4.out.trans (hb.mono HB4.out.size))
          have HW5 := Lib.hid (HW4.out.trans (hb.mono HW4.out.size))
          clear hb
          clear q0 q1 q2 q3 q4 q5 p0 p1 p2 p3 p4 p5
          have q0 := HC.out w5 HW5.out 0
          have q1 := HC.out w5 HW5.out 1
          have q2 := HC.out w5 HW5.out 2
          have q3 := HC.out w5 HW5.out 3
          have q4 := HC.out w5 HW5.out 4
          have q5 := HC.out w5 HW5.out 5
          have p0 := HC2.out w5 HW5.out 0
          have p1 := HC2.out w5 HW5.out 1
          have p2 := HC2.out w5 HW5.out 2
          have p3 := HC2.out w5 HW5.out 3
          have p4 := HC2.out w5 HW5.out 4
          have p5 := HC2.out w5 HW5.out 5
          have HBQ := Lib.hid fun d os => HB5.out.trans ((below_regrown w5 d os).mono HB5.out.size)
          have cA := fun d os => Calls.regrown_of (HSX.out (by first | trivial | rfl) (grow (redrawn w5 d) os) (HBQ.out d os))
          have cB := fun d os => Calls.regrown_of (HSY.out (by first | trivial | rfl) (grow (redrawn w5 d) os) (HBQ.out d os))
          have cC := fun d os => Calls.regrown_of (HSM.out (grow (redrawn w5 d) os) (HBQ.out d os))
          have cD := fun d os => Calls.regrown_of (live_any (grow (redrawn w5 d) os) (HTB.out.below (HBQ.out d os)))
          have lq0 := fun d os => cell_regrown q0 d os
          have lq1 := fun d os => cell_regrown q1 d os
          have lq2 := fun d os => cell_regrown q2 d os
          have lq3 := fun d os => cell_regrown q3 d os
          have lq4 := fun d os => cell_regrown q4 d os
          have lq5 := fun d os => cell_regrown q5 d os
          have lp0 := fun d os => cell_regrown p0 d os
          have lp1 := fun d os => cell_regrown p1 d os
          have lp2 := fun d os => cell_regrown p2 d os
          have lp3 := fun d os => cell_regrown p3 d os
          have lp4 := fun d os => cell_regrown p4 d os
          have lp5 := fun d os => cell_regrown p5 d os
          cases sm
          all_goals (
            go_wp2_with fail
            refine wp_region_quiet_below (by kernel_rfl) (by kernel_rfl) ?_
            repeat (quiet_step (first | with_reducible exact cA _ _ | with_reducible exact cB _ _ | with_reducible exact cC _ _ | with_reducible exact cD _ _))
            refine wpQuiet_nil ?_
            intro _ hw'
            obtain ⟨⟨dq, osq⟩, hw''⟩ := hw'
            subst hw''
            have HBR := Lib.hid (HBQ.out dq osq)
            clear cA cB cC cD lq0 lq1 lq2 lq3 lq4 lq5 lp0 lp1 lp2 lp3 lp4 lp5
            generalize grow (redrawn w5 dq) osq = wq at *
            go_wp2_with fail
            go_ret
            exact ⟨rfl, HBR.out⟩)
end Go.Proofs.YtijbahdpblopjaaDoor
