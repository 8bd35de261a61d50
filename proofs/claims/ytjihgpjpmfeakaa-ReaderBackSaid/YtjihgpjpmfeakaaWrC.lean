/- What a Writer's Num does. Conditions: what is written is less than memory holds. -/
import Derived.Test.YtjihgpjpmfeakaaWrB
namespace Go.Proofs.Ytjihgpjpmfeakaa
open Go.RowKit
set_option linter.unusedVariables false

theorem Wrote.below {w w1 w' : World} {base b : Nat} {st : Option (List Int)} {g : Option Nat} {e : Ending} (hb : Below w.heap.size w w1) (h : Wrote w1 base b st g e w') : Wrote w base b st g e w' := by
  obtain ⟨he, g', h1, h2, h3⟩ := h
  refine ⟨he, g', h1, Mine.into hb h2, ?_⟩
  rcases h3 with h3 | ⟨k, h3, hk⟩
  · exact .inl h3
  · exact .inr ⟨k, h3, Nat.le_trans hb.size hk⟩
theorem Wrote.then_ {w w1 w' : World} {base b : Nat} {st : Option (List Int)} {g g1 : Option Nat} {e : Ending} (hm : Mine w w1 b g) (hg : Goes w g g1) (h : Wrote w1 base b st g1 e w') : Wrote w base b st g e w' := by
  obtain ⟨he, g', h1, h2, h3⟩ := h
  exact ⟨he, g', h1, hm.trans h2 hg, hg.trans h3 hm.size⟩

set_option maxHeartbeats 800000 in
theorem wrNum_no (base b : Nat) (g : Option Nat) (n z : Int) (w : World) (h : WrAt w base b none g) :
    Calls Try.prog 23 #[.pointer (some ⟨b, 0, none⟩), .int .i64 n, .int .i64 z] w fun e w' => Wrote w base b none g e w' := by
  have H := Lib.hid h
  clear h
  go_enter Try.func23, Try.ntmps23
  go_wp2_with fail
  refine (wrOk_no base b g _ H.out).mono ?_
  rintro e w' ⟨rfl, rfl⟩
  go_wp2_with fail
  first | (refine bodyPost_ret (results_none rfl _ _ _) rfl ?_) | go_end0
  exact ⟨rfl, g, H.out, Mine.refl _ _ _, Goes.refl _ _⟩

set_option maxHeartbeats 800000 in
theorem wrNum_nil (n z : Int) (w : World) :
    Calls Try.prog 23 #[.pointer none, .int .i64 n, .int .i64 z] w fun e w' => e = .returned (.tuple #[]) ∧ w = w' := by
  go_enter Try.func23, Try.ntmps23
  go_wp2_with fail
  refine (wrOk_nil _).mono ?_
  rintro e w' ⟨rfl, rfl⟩
  go_wp2_with fail
  first | (refine bodyPost_ret (results_none rfl _ _ _) rfl ?_) | go_end0
  exact ⟨rfl, rfl⟩

theorem size_ways {n z : Int} (h : ¬ (1 ≤ z ∧ z ≤ 4 ∧ 0 ≤ n ∧ n < 256 ^ z.toNat)) :
    decide (z < 1) = true ∨ (decide (z < 1) = false ∧ decide (4 < z) = true) ∨ (decide (z < 1) = false ∧ decide (4 < z) = false ∧ decide (n < 0) = true) ∨ (z = 1 ∧ 256 ≤ n) ∨ (z = 2 ∧ 65536 ≤ n) ∨ (z = 3 ∧ 16777216 ≤ n) ∨ (z = 4 ∧ 4294967296 ≤ n) := by
  simp only [decide_eq_true_eq, decide_eq_false_iff_not]
  by_cases h1 : z < 1
  · exact .inl h1
  by_cases h2 : 4 < z
  · exact .inr (.inl ⟨h1, h2⟩)
  by_cases h3 : n < 0
  · exact .inr (.inr (.inl ⟨h1, h2, h3⟩))
  refine .inr (.inr (.inr ?_))
  obtain rfl | rfl | rfl | rfl : z = 1 ∨ z = 2 ∨ z = 3 ∨ z = 4 := by omega
  all_goals (simp at h; omega)

set_option maxHeartbeats 1600000 in
theorem wrNum_out (base b : Nat) (l : List Int) (g : Option Nat) (n z : Int) (w : World) (h : WrAt w base b (some l) g) (hz : ¬ (1 ≤ z ∧ z ≤ 4 ∧ 0 ≤ n ∧ n < 256 ^ z.toNat)) :
    Calls Try.prog 23 #[.pointer (some ⟨b, 0, none⟩), .int .i64 n, .int .i64 z] w fun e w' => Wrote w base b none g e w' := by
  have h0 := h.ok
  have f0 := h.fz 0
  have H := Lib.hid h
  clear h
  have hw := size_ways hz
  clear hz
  rcases hw with h1 | ⟨h1, h2⟩ | ⟨h1, h2, h3⟩ | ⟨rfl, h3⟩ | ⟨rfl, h3⟩ | ⟨rfl, h3⟩ | ⟨rfl, h3⟩
  all_goals
    go_enter Try.func23, Try.ntmps23
    go_wp2_with fail
    refine (wrOk_yes base b l g _ H.out).mono ?_
    rintro e w' ⟨rfl, rfl⟩
    go_wp2_with fail
    refine (stFail b w _ h0 f0).mono ?_
    rintro e w' ⟨rfl, rfl⟩
    go_wp2_with fail
    first | (refine bodyPost_ret (results_none rfl _ _ _) rfl ?_) | go_end0
    exact ⟨rfl, g, H.out.fails, (Mine.refl _ _ _).set _ _, Goes.refl _ _⟩
end Go.Proofs.Ytjihgpjpmfeakaa
