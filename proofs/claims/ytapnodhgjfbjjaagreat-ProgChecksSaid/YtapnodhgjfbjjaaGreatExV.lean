/- Which expressions are right, and their variables, of the document's text. Conditions: names of at most 1000 bytes, at most 100 arms. -/
import Derived.Test.YtapnodhgjfbjjaaGreatExN
namespace Go.Proofs.YtapnodhgjfbjjaaGreat
open Go.RowKit Go.Sort
set_option linter.unusedVariables false

/-- A part's texts are short. -/
def ShortP (p : Ex) : Prop := p.s.size ≤ 1000 ∧ (∀ t ∈ p.arms, t.size ≤ 9223372036854775807) ∧ p.arms.length ≤ 100
theorem ShortP.of_few {p : Ex} (h : fewP p = true) : ShortP p := by
  simp only [fewP, Bool.and_eq_true, Bool.not_eq_true', decide_eq_false_iff_not, List.all_eq_true] at h
  obtain ⟨⟨h1, h2⟩, h3⟩ := h
  refine ⟨by omega, fun t ht => ?_, by omega⟩
  have := h3 t ht
  simp only [fewA, Bool.not_eq_true', decide_eq_false_iff_not] at this
  omega

def partX (x : Ex) : Bool := decide (1 ≤ x.k) && decide (x.k ≤ 17) && numbersX x && namedX x && armsX x && decide ((subsX x).1 ≤ x.subs.length) && decide ((x.subs.length : Int) ≤ (subsX x).2) && ((x.k != 8) || constX (subX x 0))
def rightX (x : Ex) : Bool := !decide (60 < sizeX x) && !decide (12 < depthX x) && (partsX x).all partX

theorem numbers_13 {x : Ex} (h : numbersX x = true) (hk : x.k = 13) : x.n = 0 ∨ x.n = 1 := by
  unfold numbersX at h
  rw [hk] at h
  simp at h
  exact h.2
theorem subs_8 {x : Ex} (hk : x.k = 8) : subsX x = (2, 2) := by
  unfold subsX
  rw [hk]
  rfl

set_option maxRecDepth 100000 in
set_option maxHeartbeats 8000000 in
theorem refPart (x : Ex) (A : Option Addr) (ca : Nat) (B : Option Addr) (cb : Nat) (w : World) (hr : rdX w x A B) (hsh : ShortP x) :
    Calls Tryz.prog 80 #[.agg (exA x A ca B cb)] w fun e w' => e = .returned (.bool (partX x)) ∧ Below w.heap.size w w' := by
  have HF := Lib.hid fun w1 h => box_facts w x A ca B cb w1 h hr
  have HS := Lib.hid (show partX x = (decide (1 ≤ x.k) && decide (x.k ≤ 17) && numbersX x && namedX x && armsX x && decide ((subsX x).1 ≤ x.subs.length) && decide ((x.subs.length : Int) ≤ (subsX x).2) && ((x.k != 8) || constX (subX x 0))) from rfl)
  have HNU := Lib.hid fun w1 (h : Below w.heap.size w w1) => refNumbers x A ca B cb w1 (hr.below h)
  have HNA := Lib.hid fun w1 (h : Below w.heap.size w w1) => refNamed x A ca B cb w1 (hr.below h) hsh.1
  have HAR := Lib.hid fun w1 (h : Below w.heap.size w w1) => refArms x A ca B cb w1 (hr.below h) hsh.2.1 hsh.2.2
  have HSU := Lib.hid fun w1 (h : Below w.heap.size w w1) (hn : x.k = 13 → x.n = 0 ∨ x.n = 1) => refSubs x A ca B cb w1 (hr.below h) hn
  have HN13 := Lib.hid (numbers_13 (x := x))
  have HS8 := Lib.hid (subs_8 (x := x))
  have hmx := hr.subs.max
  clear hr hsh
  unfold exA at HF HNU HNA HAR HSU ⊢
  generalize partX x = res at *
  generalize numbersX x = bnu at *
  generalize namedX x = bna at *
  generalize armsX x = bar at *
  generalize hsu : subsX x = su at *
  obtain ⟨lo, hi⟩ := su
  clear hsu
  simp only at HS HSU HS8
  generalize x.k = k at *
  generalize x.n = m at *
  generalize hlen : x.subs.length = n at *
  by_cases h1 : k < 1
  · have HN := Lib.hid (show res = false by rw [HS.out, decide_eq_false (show ¬ 1 ≤ k by omega)]; rfl)
    go_enter Tryz.func80, Tryz.ntmps80
    go_upto_region 1 with (fail)
    generalize hw1 : w.alloc _ = w1
    obtain ⟨hb1, hg, hr1, hcell⟩ := HF.out w1 hw1
    have HB1 := Lib.hid hb1
    have HC := Lib.hid hcell
    have HR1 := Lib.hid hr1
    have HW1 := Lib.hid (Below.refl w1.heap.size w1)
    have q0 := hcell w1 (Below.refl _ _) 0
    have q1 := hcell w1 (Below.refl _ _) 1
    have q2 := hcell w1 (Below.refl _ _) 2
    have q3 := hcell w1 (Below.refl _ _) 3
    have q4 := hcell w1 (Below.refl _ _) 4
    have q5 := hcell w1 (Below.refl _ _) 5
    clear hcell hb1 hr1 hw1 HF
    go_wp2_with fail
    go_ret
    exact ⟨ret_bool HN.out.symm, HB1.out⟩
  by_cases h17 : 17 < k
  · have HN := Lib.hid (show res = false by rw [HS.out, decide_eq_false (show ¬ k ≤ 17 by omega)]; simp)
    go_enter Tryz.func80, Tryz.ntmps80
    go_upto_region 1 with (fail)
    generalize hw1 : w.alloc _ = w1
    obtain ⟨hb1, hg, hr1, hcell⟩ := HF.out w1 hw1
    have HB1 := Lib.hid hb1
    have HC := Lib.hid hcell
    have HR1 := Lib.hid hr1
    have HW1 := Lib.hid (Below.refl w1.heap.size w1)
    have q0 := hcell w1 (Below.refl _ _) 0
    have q1 := hcell w1 (Below.refl _ _) 1
    have q2 := hcell w1 (Below.refl _ _) 2
    have q3 := hcell w1 (Below.refl _ _) 3
    have q4 := hcell w1 (Below.refl _ _) 4
    have q5 := hcell w1 (Below.refl _ _) 5
    clear hcell hb1 hr1 hw1 HF
    go_wp2_with fail
    go_ret
    exact ⟨ret_bool HN.out.symm, HB1.out⟩
  rw [decide_eq_true (show 1 ≤ k by omega), decide_eq_true (show k ≤ 17 by omega)] at HS
  cases bnu with
  | false =>
    have HN := Lib.hid (show res = false by rw [HS.out]; simp)
    go_enter Tryz.func80, Tryz.ntmps80
    go_upto_region 1 with (fail)
    generalize hw1 : w.alloc _ = w1
    obtain ⟨hb1, hg, hr1, hcell⟩ := HF.out w1 hw1
    have HB1 := Lib.hid hb1
    have HC := Lib.hid hcell
    have HR1 := Lib.hid hr1
    have HW1 := Lib.hid (Below.refl w1.heap.size w1)
    have q0 := hcell w1 (Below.refl _ _) 0
    have q1 := hcell w1 (Below.refl _ _) 1
    have q2 := hcell w1 (Below.refl _ _) 2
    have q3 := hcell w1 (Below.refl _ _) 3
    have q4 := hcell w1 (Below.refl _ _) 4
    have q5 := hcell w1 (Below.refl _ _) 5
    clear hcell hb1 hr1 hw1 HF
    go_wp2_with fail
    refine (HNU.out w1 HB1.out).mono ?_
    rintro r w2 ⟨rfl, hb⟩
    have HB2 := Lib.hid (HB1.out.trans (hb.mono HB1.out.size))
    have HW2 := Lib.hid (HW1.out.trans (hb.mono HW1.out.size))
    clear hb q0 q1 q2 q3 q4 q5
    have q0 := HC.out w2 HW2.out 0
    have q1 := HC.out w2 HW2.out 1
    have q2 := HC.out w2 HW2.out 2
    have q3 := HC.out w2 HW2.out 3
    have q4 := HC.out w2 HW2.out 4
    have q5 := HC.out w2 HW2.out 5
    go_wp2_with fail
    go_ret
    exact ⟨ret_bool HN.out.symm, HB2.out⟩
  | true =>
    cases bna with
    | false =>
      have HN := Lib.hid (show res = false by rw [HS.out]; simp)
      go_enter Tryz.func80, Tryz.ntmps80
      go_upto_region 1 with (fail)
      generalize hw1 : w.alloc _ = w1
      obtain ⟨hb1, hg, hr1, hcell⟩ := HF.out w1 hw1
      have HB1 := Lib.hid hb1
      have HC := Lib.hid hcell
      have HR1 := Lib.hid hr1
      have HW1 := Lib.hid (Below.refl w1.heap.size w1)
      have q0 := hcell w1 (Below.refl _ _) 0
      have q1 := hcell w1 (Below.refl _ _) 1
      have q2 := hcell w1 (Below.refl _ _) 2
      have q3 := hcell w1 (Below.refl _ _) 3
      have q4 := hcell w1 (Below.refl _ _) 4
      have q5 := hcell w1 (Below.refl _ _) 5
      clear hcell hb1 hr1 hw1 HF
      go_wp2_with fail
      refine (HNU.out w1 HB1.out).mono ?_
      rintro r w2 ⟨rfl, hb⟩
      have HB2 := Lib.hid (HB1.out.trans (hb.mono HB1.out.size))
      have HW2 := Lib.hid (HW1.out.trans (hb.mono HW1.out.size))
      clear hb q0 q1 q2 q3 q4 q5
      have q0 := HC.out w2 HW2.out 0
      have q1 := HC.out w2 HW2.out 1
      have q2 := HC.out w2 HW2.out 2
      have q3 := HC.out w2 HW2.out 3
      have q4 := HC.out w2 HW2.out 4
      have q5 := HC.out w2 HW2.out 5
      go_wp2_with fail
      refine (HNA.out w2 HB2.out).mono ?_
      rintro r w3 ⟨rfl, hb⟩
      have HB3 := Lib.hid (HB2.out.trans (hb.mono HB2.out.size))
      have HW3 := Lib.hid (HW2.out.trans (hb.mono HW2.out.size))
      clear hb q0 q1 q2 q3 q4 q5
      have q0 := HC.out w3 HW3.out 0
      have q1 := HC.out w3 HW3.out 1
      have q2 := HC.out w3 HW3.out 2
      have q3 := HC.out w3 HW3.out 3
      have q4 := HC.out w3 HW3.out 4
      have q5 := HC.out w3 HW3.out 5
      go_wp2_with fail
      go_ret
      exact ⟨ret_bool HN.out.symm, HB3.out⟩
    | true =>
      cases bar with
      | false =>
        have HN := Lib.hid (show res = false by rw [HS.out]; simp)
        go_enter Tryz.func80, Tryz.ntmps80
        go_upto_region 1 with (fail)
        generalize hw1 : w.alloc _ = w1
        obtain ⟨hb1, hg, hr1, hcell⟩ := HF.out w1 hw1
        have HB1 := Lib.hid hb1
        have HC := Lib.hid hcell
        have HR1 := Lib.hid hr1
        have HW1 := Lib.hid (Below.refl w1.heap.size w1)
        have q0 := hcell w1 (Below.refl _ _) 0
        have q1 := hcell w1 (Below.refl _ _) 1
        have q2 := hcell w1 (Below.refl _ _) 2
        have q3 := hcell w1 (Below.refl _ _) 3
        have q4 := hcell w1 (Below.refl _ _) 4
        have q5 := hcell w1 (Below.refl _ _) 5
        clear hcell hb1 hr1 hw1 HF
        go_wp2_with fail
        refine (HNU.out w1 HB1.out).mono ?_
        rintro r w2 ⟨rfl, hb⟩
        have HB2 := Lib.hid (HB1.out.trans (hb.mono HB1.out.size))
        have HW2 := Lib.hid (HW1.out.trans (hb.mono HW1.out.size))
        clear hb q0 q1 q2 q3 q4 q5
        have q0 := HC.out w2 HW2.out 0
        have q1 := HC.out w2 HW2.out 1
        have q2 := HC.out w2 HW2.out 2
        have q3 := HC.out w2 HW2.out 3
        have q4 := HC.out w2 HW2.out 4
        have q5 := HC.out w2 HW2.out 5
        go_wp2_with fail
        refine (HNA.out w2 HB2.out).mono ?_
        rintro r w3 ⟨rfl, hb⟩
        have HB3 := Lib.hid (HB2.out.trans (hb.mono HB2.out.size))
        have HW3 := Lib.hid (HW2.out.trans (hb.mono HW2.out.size))
        clear hb q0 q1 q2 q3 q4 q5
        have q0 := HC.out w3 HW3.out 0
        have q1 := HC.out w3 HW3.out 1
        have q2 := HC.out w3 HW3.out 2
        have q3 := HC.out w3 HW3.out 3
        have q4 := HC.out w3 HW3.out 4
        have q5 := HC.out w3 HW3.out 5
        go_wp2_with fail
        refine (HAR.out w3 HB3.out).mono ?_
        rintro r w4 ⟨rfl, hb⟩
        have HB4 := Lib.hid (HB3.out.trans (hb.mono HB3.out.size))
        have HW4 := Lib.hid (HW3.out.trans (hb.mono HW3.out.size))
        clear hb q0 q1 q2 q3 q4 q5
        have q0 := HC.out w4 HW4.out 0
        have q1 := HC.out w4 HW4.out 1
        have q2 := HC.out w4 HW4.out 2
        have q3 := HC.out w4 HW4.out 3
        have q4 := HC.out w4 HW4.out 4
        have q5 := HC.out w4 HW4.out 5
        go_wp2_with fail
        go_ret
        exact ⟨ret_bool HN.out.symm, HB4.out⟩
      | true =>
        by_cases hlo : (n : Int) < lo
        · have HN := Lib.hid (show res = false by rw [HS.out, decide_eq_false (show ¬ lo ≤ (n : Int) by omega)]; simp)
          go_enter Tryz.func80, Tryz.ntmps80
          go_upto_region 1 with (fail)
          generalize hw1 : w.alloc _ = w1
          obtain ⟨hb1, hg, hr1, hcell⟩ := HF.out w1 hw1
          have HB1 := Lib.hid hb1
          have HC := Lib.hid hcell
          have HR1 := Lib.hid hr1
          have HW1 := Lib.hid (Below.refl w1.heap.size w1)
          have q0 := hcell w1 (Below.refl _ _) 0
          have q1 := hcell w1 (Below.refl _ _) 1
          have q2 := hcell w1 (Below.refl _ _) 2
          have q3 := hcell w1 (Below.refl _ _) 3
          have q4 := hcell w1 (Below.refl _ _) 4
          have q5 := hcell w1 (Below.refl _ _) 5
          clear hcell hb1 hr1 hw1 HF
          go_wp2_with fail
          refine (HNU.out w1 HB1.out).mono ?_
          rintro r w2 ⟨rfl, hb⟩
          have HB2 := Lib.hid (HB1.out.trans (hb.mono HB1.out.size))
          have HW2 := Lib.hid (HW1.out.trans (hb.mono HW1.out.size))
          clear hb q0 q1 q2 q3 q4 q5
          have q0 := HC.out w2 HW2.out 0
          have q1 := HC.out w2 HW2.out 1
          have q2 := HC.out w2 HW2.out 2
          have q3 := HC.out w2 HW2.out 3
          have q4 := HC.out w2 HW2.out 4
          have q5 := HC.out w2 HW2.out 5
          go_wp2_with fail
          refine (HNA.out w2 HB2.out).mono ?_
          rintro r w3 ⟨rfl, hb⟩
          have HB3 := Lib.hid (HB2.out.trans (hb.mono HB2.out.size))
          have HW3 := Lib.hid (HW2.out.trans (hb.mono HW2.out.size))
          clear hb q0 q1 q2 q3 q4 q5
          have q0 := HC.out w3 HW3.out 0
          have q1 := HC.out w3 HW3.out 1
          have q2 := HC.out w3 HW3.out 2
          have q3 := HC.out w3 HW3.out 3
          have q4 := HC.out w3 HW3.out 4
          have q5 := HC.out w3 HW3.out 5
          go_wp2_with fail
          refine (HAR.out w3 HB3.out).mono ?_
          rintro r w4 ⟨rfl, hb⟩
          have HB4 := Lib.hid (HB3.out.trans (hb.mono HB3.out.size))
          have HW4 := Lib.hid (HW3.out.trans (hb.mono HW3.out.size))
          clear hb q0 q1 q2 q3 q4 q5
          have q0 := HC.out w4 HW4.out 0
          have q1 := HC.out w4 HW4.out 1
          have q2 := HC.out w4 HW4.out 2
          have q3 := HC.out w4 HW4.out 3
          have q4 := HC.out w4 HW4.out 4
          have q5 := HC.out w4 HW4.out 5
          go_wp2_with fail
          refine (HSU.out w4 HB4.out (HN13.out (by first | trivial | rfl))).mono ?_
          rintro r w5 ⟨rfl, hb⟩
          have HB5 := Lib.hid (HB4.out.trans (hb.mono HB4.out.size))
          have HW5 := Lib.hid (HW4.out.trans (hb.mono HW4.out.size))
          clear hb q0 q1 q2 q3 q4 q5
          have q0 := HC.out w5 HW5.out 0
          have q1 := HC.out w5 HW5.out 1
          have q2 := HC.out w5 HW5.out 2
          have q3 := HC.out w5 HW5.out 3
          have q4 := HC.out w5 HW5.out 4
          have q5 := HC.out w5 HW5.out 5
          go_wp2_with fail
          go_ret
          exact ⟨ret_bool HN.out.symm, HB5.out⟩
        by_cases hhi : hi < (n : Int)
        · have HN := Lib.hid (show res = false by rw [HS.out, decide_eq_false (show ¬ (n : Int) ≤ hi by omega)]; simp)
          go_enter Tryz.func80, Tryz.ntmps80
          go_upto_region 1 with (fail)
          generalize hw1 : w.alloc _ = w1
          obtain ⟨hb1, hg, hr1, hcell⟩ := HF.out w1 hw1
          have HB1 := Lib.hid hb1
          have HC := Lib.hid hcell
          have HR1 := Lib.hid hr1
          have HW1 := Lib.hid (Below.refl w1.heap.size w1)
          have q0 := hcell w1 (Below.refl _ _) 0
          have q1 := hcell w1 (Below.refl _ _) 1
          have q2 := hcell w1 (Below.refl _ _) 2
          have q3 := hcell w1 (Below.refl _ _) 3
          have q4 := hcell w1 (Below.refl _ _) 4
          have q5 := hcell w1 (Below.refl _ _) 5
          clear hcell hb1 hr1 hw1 HF
          go_wp2_with fail
          refine (HNU.out w1 HB1.out).mono ?_
          rintro r w2 ⟨rfl, hb⟩
          have HB2 := Lib.hid (HB1.out.trans (hb.mono HB1.out.size))
          have HW2 := Lib.hid (HW1.out.trans (hb.mono HW1.out.size))
          clear hb q0 q1 q2 q3 q4 q5
          have q0 := HC.out w2 HW2.out 0
          have q1 := HC.out w2 HW2.out 1
          have q2 := HC.out w2 HW2.out 2
          have q3 := HC.out w2 HW2.out 3
          have q4 := HC.out w2 HW2.out 4
          have q5 := HC.out w2 HW2.out 5
          go_wp2_with fail
          refine (HNA.out w2 HB2.out).mono ?_
          rintro r w3 ⟨rfl, hb⟩
          have HB3 := Lib.hid (HB2.out.trans (hb.mono HB2.out.size))
          have HW3 := Lib.hid (HW2.out.trans (hb.mono HW2.out.size))
          clear hb q0 q1 q2 q3 q4 q5
          have q0 := HC.out w3 HW3.out 0
          have q1 := HC.out w3 HW3.out 1
          have q2 := HC.out w3 HW3.out 2
          have q3 := HC.out w3 HW3.out 3
          have q4 := HC.out w3 HW3.out 4
          have q5 := HC.out w3 HW3.out 5
          go_wp2_with fail
          refine (HAR.out w3 HB3.out).mono ?_
          rintro r w4 ⟨rfl, hb⟩
          have HB4 := Lib.hid (HB3.out.trans (hb.mono HB3.out.size))
          have HW4 := Lib.hid (HW3.out.trans (hb.mono HW3.out.size))
          clear hb q0 q1 q2 q3 q4 q5
          have q0 := HC.out w4 HW4.out 0
          have q1 := HC.out w4 HW4.out 1
          have q2 := HC.out w4 HW4.out 2
          have q3 := HC.out w4 HW4.out 3
          have q4 := HC.out w4 HW4.out 4
          have q5 := HC.out w4 HW4.out 5
          go_wp2_with fail
          refine (HSU.out w4 HB4.out (HN13.out (by first | trivial | rfl))).mono ?_
          rintro r w5 ⟨rfl, hb⟩
          have HB5 := Lib.hid (HB4.out.trans (hb.mono HB4.out.size))
          have HW5 := Lib.hid (HW4.out.trans (hb.mono HW4.out.size))
          clear hb q0 q1 q2 q3 q4 q5
          have q0 := HC.out w5 HW5.out 0
          have q1 := HC.out w5 HW5.out 1
          have q2 := HC.out w5 HW5.out 2
          have q3 := HC.out w5 HW5.out 3
          have q4 := HC.out w5 HW5.out 4
          have q5 := HC.out w5 HW5.out 5
          go_wp2_with fail
          go_ret
          exact ⟨ret_bool HN.out.symm, HB5.out⟩
        rw [decide_eq_true (show lo ≤ (n : Int) by omega), decide_eq_true (show (n : Int) ≤ hi by omega)] at HS
        by_cases h8 : k = 8
        · have h88 := HS8.out h8
          injection h88 with hlo2 hhi2
          subst hlo2 hhi2 h8
          have HN := Lib.hid (show res = constX (subX x 0) by rw [HS.out]; simp)
          go_enter Tryz.func80, Tryz.ntmps80
          go_upto_region 1 with (fail)
          generalize hw1 : w.alloc _ = w1
          obtain ⟨hb1, hg, hr1, hcell⟩ := HF.out w1 hw1
          have HB1 := Lib.hid hb1
          have HC := Lib.hid hcell
          have HR1 := Lib.hid hr1
          have HW1 := Lib.hid (Below.refl w1.heap.size w1)
          have q0 := hcell w1 (Below.refl _ _) 0
          have q1 := hcell w1 (Below.refl _ _) 1
          have q2 := hcell w1 (Below.refl _ _) 2
          have q3 := hcell w1 (Below.refl _ _) 3
          have q4 := hcell w1 (Below.refl _ _) 4
          have q5 := hcell w1 (Below.refl _ _) 5
          clear hcell hb1 hr1 hw1 HF
          go_wp2_with fail
          refine (HNU.out w1 HB1.out).mono ?_
          rintro r w2 ⟨rfl, hb⟩
          have HB2 := Lib.hid (HB1.out.trans (hb.mono HB1.out.size))
          have HW2 := Lib.hid (HW1.out.trans (hb.mono HW1.out.size))
          clear hb q0 q1 q2 q3 q4 q5
          have q0 := HC.out w2 HW2.out 0
          have q1 := HC.out w2 HW2.out 1
          have q2 := HC.out w2 HW2.out 2
          have q3 := HC.out w2 HW2.out 3
          have q4 := HC.out w2 HW2.out 4
          have q5 := HC.out w2 HW2.out 5
          go_wp2_with fail
          refine (HNA.out w2 HB2.out).mono ?_
          rintro r w3 ⟨rfl, hb⟩
          have HB3 := Lib.hid (HB2.out.trans (hb.mono HB2.out.size))
          have HW3 := Lib.hid (HW2.out.trans (hb.mono HW2.out.size))
          clear hb q0 q1 q2 q3 q4 q5
          have q0 := HC.out w3 HW3.out 0
          have q1 := HC.out w3 HW3.out 1
          have q2 := HC.out w3 HW3.out 2
          have q3 := HC.out w3 HW3.out 3
          have q4 := HC.out w3 HW3.out 4
          have q5 := HC.out w3 HW3.out 5
          go_wp2_with fail
          refine (HAR.out w3 HB3.out).mono ?_
          rintro r w4 ⟨rfl, hb⟩
          have HB4 := Lib.hid (HB3.out.trans (hb.mono HB3.out.size))
          have HW4 := Lib.hid (HW3.out.trans (hb.mono HW3.out.size))
          clear hb q0 q1 q2 q3 q4 q5
          have q0 := HC.out w4 HW4.out 0
          have q1 := HC.out w4 HW4.out 1
          have q2 := HC.out w4 HW4.out 2
          have q3 := HC.out w4 HW4.out 3
          have q4 := HC.out w4 HW4.out 4
          have q5 := HC.out w4 HW4.out 5
          go_wp2_with fail
          refine (HSU.out w4 HB4.out (HN13.out (by first | trivial | rfl))).mono ?_
          rintro r w5 ⟨rfl, hb⟩
          have HB5 := Lib.hid (HB4.out.trans (hb.mono HB4.out.size))
          have HW5 := Lib.hid (HW4.out.trans (hb.mono HW4.out.size))
          clear hb q0 q1 q2 q3 q4 q5
          have q0 := HC.out w5 HW5.out 0
          have q1 := HC.out w5 HW5.out 1
          have q2 := HC.out w5 HW5.out 2
          have q3 := HC.out w5 HW5.out 3
          have q4 := HC.out w5 HW5.out 4
          have q5 := HC.out w5 HW5.out 5
          obtain ⟨b, off, rfl, hb, hat⟩ := (HR1.out.below HW5.out).sub (i := 0) (by omega)
          obtain ⟨A', ca', B', cb', hrg, hrd⟩ := hat 0 (by omega)
          rw [Nat.zero_mul, Nat.add_zero] at hrg
          obtain ⟨c0, c1, c2, c3, c4, c5⟩ := rangeAt_six hrg
          have HCO := Lib.hid (refConst (subX x 0) A' ca' B' cb' w5 hrd)
          clear hat hrg hrd
          generalize constX (subX x 0) = bco at *
          go_wp2_with fail
          refine HCO.out.mono ?_
          rintro r w6 ⟨rfl, hb⟩
          have HB6 := Lib.hid (HB5.out.trans (hb.mono HB5.out.size))
          clear hb
          go_wp2_with fail
          go_ret
          exact ⟨ret_bool HN.out.symm, HB6.out⟩
        have e8 : (k == 8) = false := by simpa using h8
        have n8 : (k != 8) = true := by rw [bne, e8]; rfl
        have HN := Lib.hid (show res = true by rw [HS.out, n8]; rfl)
        go_enter Tryz.func80, Tryz.ntmps80
        go_upto_region 1 with (fail)
        generalize hw1 : w.alloc _ = w1
        obtain ⟨hb1, hg, hr1, hcell⟩ := HF.out w1 hw1
        have HB1 := Lib.hid hb1
        have HC := Lib.hid hcell
        have HR1 := Lib.hid hr1
        have HW1 := Lib.hid (Below.refl w1.heap.size w1)
        have q0 := hcell w1 (Below.refl _ _) 0
        have q1 := hcell w1 (Below.refl _ _) 1
        have q2 := hcell w1 (Below.refl _ _) 2
        have q3 := hcell w1 (Below.refl _ _) 3
        have q4 := hcell w1 (Below.refl _ _) 4
        have q5 := hcell w1 (Below.refl _ _) 5
        clear hcell hb1 hr1 hw1 HF
        go_wp2_with fail
        refine (HNU.out w1 HB1.out).mono ?_
        rintro r w2 ⟨rfl, hb⟩
        have HB2 := Lib.hid (HB1.out.trans (hb.mono HB1.out.size))
        have HW2 := Lib.hid (HW1.out.trans (hb.mono HW1.out.size))
        clear hb q0 q1 q2 q3 q4 q5
        have q0 := HC.out w2 HW2.out 0
        have q1 := HC.out w2 HW2.out 1
        have q2 := HC.out w2 HW2.out 2
        have q3 := HC.out w2 HW2.out 3
        have q4 := HC.out w2 HW2.out 4
        have q5 := HC.out w2 HW2.out 5
        go_wp2_with fail
        refine (HNA.out w2 HB2.out).mono ?_
        rintro r w3 ⟨rfl, hb⟩
        have HB3 := Lib.hid (HB2.out.trans (hb.mono HB2.out.size))
        have HW3 := Lib.hid (HW2.out.trans (hb.mono HW2.out.size))
        clear hb q0 q1 q2 q3 q4 q5
        have q0 := HC.out w3 HW3.out 0
        have q1 := HC.out w3 HW3.out 1
        have q2 := HC.out w3 HW3.out 2
        have q3 := HC.out w3 HW3.out 3
        have q4 := HC.out w3 HW3.out 4
        have q5 := HC.out w3 HW3.out 5
        go_wp2_with fail
        refine (HAR.out w3 HB3.out).mono ?_
        rintro r w4 ⟨rfl, hb⟩
        have HB4 := Lib.hid (HB3.out.trans (hb.mono HB3.out.size))
        have HW4 := Lib.hid (HW3.out.trans (hb.mono HW3.out.size))
        clear hb q0 q1 q2 q3 q4 q5
        have q0 := HC.out w4 HW4.out 0
        have q1 := HC.out w4 HW4.out 1
        have q2 := HC.out w4 HW4.out 2
        have q3 := HC.out w4 HW4.out 3
        have q4 := HC.out w4 HW4.out 4
        have q5 := HC.out w4 HW4.out 5
        go_wp2_with fail
        refine (HSU.out w4 HB4.out (HN13.out (by first | trivial | rfl))).mono ?_
        rintro r w5 ⟨rfl, hb⟩
        have HB5 := Lib.hid (HB4.out.trans (hb.mono HB4.out.size))
        have HW5 := Lib.hid (HW4.out.trans (hb.mono HW4.out.size))
        clear hb q0 q1 q2 q3 q4 q5
        have q0 := HC.out w5 HW5.out 0
        have q1 := HC.out w5 HW5.out 1
        have q2 := HC.out w5 HW5.out 2
        have q3 := HC.out w5 HW5.out 3
        have q4 := HC.out w5 HW5.out 4
        have q5 := HC.out w5 HW5.out 5
        go_wp2_with fail
        go_ret
        exact ⟨ret_bool HN.out.symm, HB5.out⟩

/-- An expression's variables. -/
def isVar (p : Ex) : Bool := (p.k == 3) || (p.k == 11) || (p.k == 12)
def varsX (x : Ex) : List ByteArray := ((partsX x).filter isVar).map Ex.s
set_option maxRecDepth 100000 in
set_option maxHeartbeats 8000000 in
theorem refRight (x : Ex) (A : Option Addr) (ca : Nat) (B : Option Addr) (cb : Nat) (w : World) (hr : rdX w x A B) (hs : sizeX x ≤ 1000000) (hsh : ∀ p ∈ partsX x, ShortP p) :
    Calls Tryz.prog 68 #[.agg (exA x A ca B cb)] w fun e w' => e = .returned (.bool (rightX x)) ∧ Below w.heap.size w w' := by
  have HF := Lib.hid fun w1 h => box_facts w x A ca B cb w1 h hr
  have HS := Lib.hid (show rightX x = (!decide (60 < sizeX x) && !decide (12 < depthX x) && (partsX x).all partX) from rfl)
  have HSZ := Lib.hid fun w1 (h : Below w.heap.size w w1) => refSize x A ca B cb w1 (hr.below h) hs
  have HDP := Lib.hid fun w1 (h : Below w.heap.size w w1) => refDepth x A ca B cb w1 (hr.below h) hs
  have HPT := Lib.hid fun w1 (h : Below w.heap.size w w1) => refParts x A ca B cb w w1 hr h hs
  have HLN := Lib.hid (partsX_len x)
  have HSH := Lib.hid fun i (hi : i < (partsX x).length) => hsh ((partsX x)[i]?.getD default) (by rw [List.getElem?_eq_getElem hi]; exact List.getElem_mem _)
  have hds := depth_size x
  have hsp := size_pos x
  clear hr hsh
  unfold exA at HF HSZ HDP HPT ⊢
  generalize rightX x = res at *
  have HPE : Hid (∃ l, l = partsX x) := Lib.hid ⟨_, rfl⟩
  by_cases h60 : 60 < sizeX x
  · have HN := Lib.hid (show res = false by rw [HS.out]; simp [h60])
    generalize sizeX x = n at *
    go_enter Tryz.func68, Tryz.ntmps68
    go_upto_region 1 with (fail)
    generalize hw1 : w.alloc _ = w1
    obtain ⟨hb1, hg, hr1, hcell⟩ := HF.out w1 hw1
    have HB1 := Lib.hid hb1
    have HC := Lib.hid hcell
    have HR1 := Lib.hid hr1
    have HW1 := Lib.hid (Below.refl w1.heap.size w1)
    have q0 := hcell w1 (Below.refl _ _) 0
    have q1 := hcell w1 (Below.refl _ _) 1
    have q2 := hcell w1 (Below.refl _ _) 2
    have q3 := hcell w1 (Below.refl _ _) 3
    have q4 := hcell w1 (Below.refl _ _) 4
    have q5 := hcell w1 (Below.refl _ _) 5
    clear hcell hb1 hr1 hw1 HF
    go_wp2_with fail
    refine (HSZ.out w1 HB1.out).mono ?_
    rintro r w2 ⟨rfl, hb⟩
    have HB2 := Lib.hid (HB1.out.trans (hb.mono HB1.out.size))
    clear hb
    go_wp2_with fail
    go_ret
    exact ⟨ret_bool HN.out.symm, HB2.out⟩
  by_cases h12 : 12 < depthX x
  · have HN := Lib.hid (show res = false by rw [HS.out]; simp [h12])
    generalize sizeX x = n at *
    generalize depthX x = d at *
    go_enter Tryz.func68, Tryz.ntmps68
    go_upto_region 1 with (fail)
    generalize hw1 : w.alloc _ = w1
    obtain ⟨hb1, hg, hr1, hcell⟩ := HF.out w1 hw1
    have HB1 := Lib.hid hb1
    have HC := Lib.hid hcell
    have HR1 := Lib.hid hr1
    have HW1 := Lib.hid (Below.refl w1.heap.size w1)
    have q0 := hcell w1 (Below.refl _ _) 0
    have q1 := hcell w1 (Below.refl _ _) 1
    have q2 := hcell w1 (Below.refl _ _) 2
    have q3 := hcell w1 (Below.refl _ _) 3
    have q4 := hcell w1 (Below.refl _ _) 4
    have q5 := hcell w1 (Below.refl _ _) 5
    clear hcell hb1 hr1 hw1 HF
    go_wp2_with fail
    refine (HSZ.out w1 HB1.out).mono ?_
    rintro r w2 ⟨rfl, hb⟩
    have HB2 := Lib.hid (HB1.out.trans (hb.mono HB1.out.size))
    have HW2 := Lib.hid (HW1.out.trans (hb.mono HW1.out.size))
    clear hb q0 q1 q2 q3 q4 q5
    have q0 := HC.out w2 HW2.out 0
    have q1 := HC.out w2 HW2.out 1
    have q2 := HC.out w2 HW2.out 2
    have q3 := HC.out w2 HW2.out 3
    have q4 := HC.out w2 HW2.out 4
    have q5 := HC.out w2 HW2.out 5
    go_wp2_with fail
    refine (HDP.out w2 HB2.out).mono ?_
    rintro r w3 ⟨rfl, hb⟩
    have HB3 := Lib.hid (HB2.out.trans (hb.mono HB2.out.size))
    have HW3 := Lib.hid (HW2.out.trans (hb.mono HW2.out.size))
    clear hb q0 q1 q2 q3 q4 q5
    have q0 := HC.out w3 HW3.out 0
    have q1 := HC.out w3 HW3.out 1
    have q2 := HC.out w3 HW3.out 2
    have q3 := HC.out w3 HW3.out 3
    have q4 := HC.out w3 HW3.out 4
    have q5 := HC.out w3 HW3.out 5
    go_wp2_with fail
    go_ret
    exact ⟨ret_bool HN.out.symm, HB3.out⟩
  have HS2 := Lib.hid (show res = (partsX x).all partX by rw [HS.out]; simp [h60, h12])
  generalize depthX x = d at *
  go_enter Tryz.func68, Tryz.ntmps68
  go_upto_region 1 with (fail)
  generalize hw1 : w.alloc _ = w1
  obtain ⟨hb1, hg, hr1, hcell⟩ := HF.out w1 hw1
  have HB1 := Lib.hid hb1
  have HC := Lib.hid hcell
  have HR1 := Lib.hid hr1
  have HW1 := Lib.hid (Below.refl w1.heap.size w1)
  have q0 := hcell w1 (Below.refl _ _) 0
  have q1 := hcell w1 (Below.refl _ _) 1
  have q2 := hcell w1 (Below.refl _ _) 2
  have q3 := hcell w1 (Below.refl _ _) 3
  have q4 := hcell w1 (Below.refl _ _) 4
  have q5 := hcell w1 (Below.refl _ _) 5
  clear hcell hb1 hr1 hw1 HF
  go_wp2_with fail
  refine (HSZ.out w1 HB1.out).mono ?_
  rintro r w2 ⟨rfl, hb⟩
  have HB2 := Lib.hid (HB1.out.trans (hb.mono HB1.out.size))
  have HW2 := Lib.hid (HW1.out.trans (hb.mono HW1.out.size))
  clear hb q0 q1 q2 q3 q4 q5
  have q0 := HC.out w2 HW2.out 0
  have q1 := HC.out w2 HW2.out 1
  have q2 := HC.out w2 HW2.out 2
  have q3 := HC.out w2 HW2.out 3
  have q4 := HC.out w2 HW2.out 4
  have q5 := HC.out w2 HW2.out 5
  go_wp2_with fail
  refine (HDP.out w2 HB2.out).mono ?_
  rintro r w3 ⟨rfl, hb⟩
  have HB3 := Lib.hid (HB2.out.trans (hb.mono HB2.out.size))
  have HW3 := Lib.hid (HW2.out.trans (hb.mono HW2.out.size))
  clear hb q0 q1 q2 q3 q4 q5
  have q0 := HC.out w3 HW3.out 0
  have q1 := HC.out w3 HW3.out 1
  have q2 := HC.out w3 HW3.out 2
  have q3 := HC.out w3 HW3.out 3
  have q4 := HC.out w3 HW3.out 4
  have q5 := HC.out w3 HW3.out 5
  go_wp2_with fail
  refine (HPT.out w3 HB3.out).mono ?_
  rintro r w4 ⟨A2, c2, cs2, rfl, hcel, hfl2, hb, _⟩
  have HB4 := Lib.hid (HB3.out.trans (hb.mono HB3.out.size))
  have HRX := Lib.hid (hcel.rd hfl2 HB4.out)
  clear hcel hfl2 hb q0 q1 q2 q3 q4 q5 HPT HSZ HDP HS HPE
  generalize partsX x = l at *
  generalize sizeX x = n at *
  go_wp2_with fail
  go_loopw [4] (fun i wr => ∃ k : Nat, k ≤ n ∧ i = .int .i64 k ∧ (l.take k).all partX = true ∧ Below w4.heap.size w4 wr) (fun i _ => n - (intOf i).toNat)
  case atStart => exact ⟨0, Nat.zero_le _, rfl, by simp, Below.refl _ _⟩
  case round =>
    obtain ⟨k, hk, rfl, hall, hbw⟩ := hrel
    have HA := Lib.hid hall
    have HBW := Lib.hid hbw
    clear hall
    by_cases hlt : k < n
    · obtain ⟨b, off, rfl, hb, hat⟩ := (HRX.out.below hbw).at_ hlt
      obtain ⟨A', ca', B', cb', hrg, hrd⟩ := hat k hlt
      obtain ⟨c0, c1, c2', c3, c4, c5⟩ := rangeAt_six hrg
      have HK := Lib.hid (show k < l.length by rw [HLN.out]; exact hlt)
      have HSK := Lib.hid (HSH.out k HK.out)
      have HFL := Lib.hid fun h => all_false (l := l) (f := partX) (i := k) HK.out h
      have HTS := Lib.hid fun h => all_take_succ (l := l) (f := partX) (k := k) HK.out HA.out h
      clear hat hrg hbw
      generalize l[k]?.getD default = p at *
      have HP := Lib.hid (refPart p A' ca' B' cb' wr hrd HSK.out)
      unfold exA at HP
      clear hrd
      cases hp : partX p with
      | false =>
        rw [hp] at HP
        have HN := Lib.hid (show res = false by rw [HS2.out]; exact HFL.out hp)
        go_wp2_with fail
        refine HP.out.mono ?_
        rintro r w5 ⟨rfl, hb5⟩
        have HB5 := Lib.hid (HBW.out.trans (hb5.mono HBW.out.size))
        clear hb5
        go_wp2_with fail
        go_ret
        exact ⟨ret_bool HN.out.symm, HB4.out.trans (HB5.out.mono HB4.out.size)⟩
      | true =>
        rw [hp] at HP
        have HN := Lib.hid (HTS.out hp)
        go_wp2_with fail
        refine HP.out.mono ?_
        rintro r w5 ⟨rfl, hb5⟩
        have HB5 := Lib.hid (HBW.out.trans (hb5.mono HBW.out.size))
        clear hb5
        go_wp2_with fail
        go_roundw
        case rel => exact ⟨k + 1, by omega, by go_num, HN.out, HB5.out⟩
        case measure => simp [intOf]; omega
    · have HN := Lib.hid (show res = true by rw [HS2.out]; exact all_take_end HA.out (by rw [HLN.out]; omega))
      go_wp2_with fail
      go_ret
      exact ⟨ret_bool HN.out.symm, HB4.out.trans (HBW.out.mono HB4.out.size)⟩

end Go.Proofs.YtapnodhgjfbjjaaGreat
