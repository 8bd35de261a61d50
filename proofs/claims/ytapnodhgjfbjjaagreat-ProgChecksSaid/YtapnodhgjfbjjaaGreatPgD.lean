/- May a variable be: of the document's text. Conditions: none. -/
import Derived.Test.YtapnodhgjfbjjaaGreatPgB
import Derived.Test.YtapnodhgjfbjjaaGreatTyV
import Derived.Test.YtapnodhgjfbjjaaGreatPgC
namespace Go.Proofs.YtapnodhgjfbjjaaGreat
open Go.RowKit
set_option linter.unusedVariables false
set_option linter.unusedSimpArgs false

/-- A variable's texts are not too long for memory. -/
def OkD (d : Dc) : Prop := d.nm.size ≤ maxLen ∧ d.on.size ≤ maxLen ∧ d.ct.size ≤ maxLen
/-- A variable's box: what is read of it, in every world behind. -/
theorem dc_facts (w : World) (d : Dc) (w1 : World) (h : w.alloc (.cells (dcA d) 48) = w1) :
    Below w.heap.size w w1 ∧ w1.heap.size = w.heap.size + 1 ∧ ∀ w', Below w1.heap.size w1 w' → ∀ j, w'.cell? ⟨w.heap.size, j, none⟩ = (dcA d)[j]? := by
  subst h
  refine ⟨(Below.refl _ _).alloc (Nat.le_refl _) _, by simp, fun w' hb j => ?_⟩
  rw [hb.cell (p := ⟨w.heap.size, j, none⟩) (by simp), World.cell?_alloc_new]
theorem below_next {w w1 w2 : World} (h : Below w.heap.size w w1) (hb : Below w1.heap.size w1 w2) : Below w.heap.size w w2 := h.trans (hb.mono h.size)

set_option maxRecDepth 100000 in
set_option maxHeartbeats 4000000 in
theorem refDecl (A : Option Addr) (n c : Nat) (d : Dc) (w : World) (hn : n ≤ 9223372036854775807) (hok : OkD d) :
    Calls Tryz.prog 49 #[.slice A n c, .agg (dcA d)] w fun e w' => e = .returned (.bool (declB n rightB d)) ∧ Below w.heap.size w w' := by
  obtain ⟨hs0, hs4, hs5⟩ := hok
  unfold maxLen at hs0 hs4 hs5
  have HF := Lib.hid fun w1 h => dc_facts w d w1 h
  have HE := Lib.hid (show declB n rightB d = (lowB d.nm.data.toList && rightB n d.k d.e d.l && (((d.on.toList == []) && (d.ct.toList == [])) || (lowB d.on.data.toList && armT d.ct))) by simp only [Lib.toList_data]; rfl)
  have HL0 := Lib.hid fun w1 => refLow d.nm w1 (by omega)
  have HL4 := Lib.hid fun w1 => refLow d.on w1 (by omega)
  have HA5 := Lib.hid fun w1 => refPgArm d.ct w1 (by omega)
  have HTR := Lib.hid fun w1 => refTyRight A n c d.k d.e d.l w1 hn
  unfold tyV at HTR
  have HON := Lib.hid (show (d.on.toList == []) = true → lowB d.on.data.toList = false by
    intro h
    rw [Lib.toList_data] at h
    rw [eq_of_beq h]
    rfl)
  unfold dcA
  generalize declB n rightB d = out at *
  go_enter Tryz.func49, Tryz.ntmps49
  go_upto_region 1 with (fail)
  generalize hw1 : w.alloc _ = w1
  obtain ⟨hb1, hg, hcell⟩ := HF.out w1 hw1
  have HB1 := Lib.hid hb1
  have HC := Lib.hid hcell
  have q0 := hcell w1 (Below.refl _ _) 0
  simp only [dcA, List.getElem?_toArray, List.getElem?_cons_zero, List.getElem?_cons_succ] at q0 HC
  clear hw1 hcell hb1 HF
  generalize d.nm = x0 at *
  generalize d.on = x4 at *
  generalize d.ct = x5 at *
  generalize d.k = tk at *
  generalize d.e = te at *
  generalize d.l = tl at *
  cases h0 : lowB x0.data.toList with
  | false =>
    rw [h0] at HE
    go_wp2_with fail
    refine (HL0.out w1).mono ?_
    rw [h0]
    rintro e w2 ⟨rfl, hb⟩
    have HW2 := Lib.hid hb
    have HB2 := Lib.hid (below_next HB1.out hb)
    clear hb
    go_wp2_with fail
    go_ret
    exact ⟨ret_bool (by rw [HE.out]; rfl), HB2.out⟩
  | true =>
    rw [h0] at HE
    go_wp2_with fail
    refine (HL0.out w1).mono ?_
    rw [h0]
    rintro e w2 ⟨rfl, hb⟩
    have HW2 := Lib.hid hb
    have HB2 := Lib.hid (below_next HB1.out hb)
    clear hb
    clear q0
    have q1 := HC.out w2 HW2.out 1
    have q2 := HC.out w2 HW2.out 2
    have q3 := HC.out w2 HW2.out 3
    simp only [List.getElem?_toArray, List.getElem?_cons_zero, List.getElem?_cons_succ] at q1 q2 q3
    cases h1 : rightB n tk te tl with
    | false =>
      rw [h1] at HE
      go_wp2_with fail
      refine (HTR.out w2).mono ?_
      rw [h1]
      rintro e w3 ⟨rfl, hb⟩
      have HW3 := Lib.hid (below_next HW2.out hb)
      have HB3 := Lib.hid (below_next HB2.out hb)
      clear hb
      go_wp2_with fail
      go_ret
      exact ⟨ret_bool (by rw [HE.out]; rfl), HB3.out⟩
    | true =>
      rw [h1] at HE
      go_wp2_with fail
      refine (HTR.out w2).mono ?_
      rw [h1]
      rintro e w3 ⟨rfl, hb⟩
      have HW3 := Lib.hid (below_next HW2.out hb)
      have HB3 := Lib.hid (below_next HB2.out hb)
      clear hb
      have q4 := HC.out w3 HW3.out 4
      have q5 := HC.out w3 HW3.out 5
      simp only [List.getElem?_toArray, List.getElem?_cons_zero, List.getElem?_cons_succ] at q4 q5
      cases h3 : (x4.toList == []) with
      | true =>
        have h4 := HON.out h3
        rw [h3, h4] at HE
        cases h6 : (x5.toList == []) with
        | true =>
          rw [h6] at HE
          go_wp2_with fail
          go_ret
          exact ⟨ret_bool (by rw [HE.out]; rfl), HB3.out⟩
        | false =>
          rw [h6] at HE
          go_wp2_with fail
          refine (HL4.out w3).mono ?_
          rw [h4]
          rintro e w4 ⟨rfl, hb⟩
          have HW4 := Lib.hid (below_next HW3.out hb)
          have HB4 := Lib.hid (below_next HB3.out hb)
          clear hb
          clear q4 q5
          have q4 := HC.out w4 HW4.out 4
          have q5 := HC.out w4 HW4.out 5
          simp only [List.getElem?_toArray, List.getElem?_cons_zero, List.getElem?_cons_succ] at q4 q5
          go_wp2_with fail
          go_ret
          exact ⟨ret_bool (by rw [HE.out]; rfl), HB4.out⟩
      | false =>
        rw [h3] at HE
        cases h4 : lowB x4.data.toList with
        | false =>
          rw [h4] at HE
          go_wp2_with fail
          refine (HL4.out w3).mono ?_
          rw [h4]
          rintro e w4 ⟨rfl, hb⟩
          have HW4 := Lib.hid (below_next HW3.out hb)
          have HB4 := Lib.hid (below_next HB3.out hb)
          clear hb
          clear q4 q5
          have q4 := HC.out w4 HW4.out 4
          have q5 := HC.out w4 HW4.out 5
          simp only [List.getElem?_toArray, List.getElem?_cons_zero, List.getElem?_cons_succ] at q4 q5
          go_wp2_with fail
          go_ret
          exact ⟨ret_bool (by rw [HE.out]; rfl), HB4.out⟩
        | true =>
          rw [h4] at HE
          go_wp2_with fail
          refine (HL4.out w3).mono ?_
          rw [h4]
          rintro e w4 ⟨rfl, hb⟩
          have HW4 := Lib.hid (below_next HW3.out hb)
          have HB4 := Lib.hid (below_next HB3.out hb)
          clear hb
          clear q4 q5
          have q4 := HC.out w4 HW4.out 4
          have q5 := HC.out w4 HW4.out 5
          simp only [List.getElem?_toArray, List.getElem?_cons_zero, List.getElem?_cons_succ] at q4 q5
          cases h5 : armT x5 with
          | true =>
            rw [h5] at HE
            go_wp2_with fail
            refine (HA5.out w4).mono ?_
            rw [h5]
            rintro e w5 ⟨rfl, rfl⟩
            go_wp2_with fail
            go_ret
            exact ⟨ret_bool (by rw [HE.out]; rfl), HB4.out⟩
          | false =>
            rw [h5] at HE
            go_wp2_with fail
            refine (HA5.out w4).mono ?_
            rw [h5]
            rintro e w5 ⟨rfl, rfl⟩
            go_wp2_with fail
            go_ret
            exact ⟨ret_bool (by rw [HE.out]; rfl), HB4.out⟩
end Go.Proofs.YtapnodhgjfbjjaaGreat
