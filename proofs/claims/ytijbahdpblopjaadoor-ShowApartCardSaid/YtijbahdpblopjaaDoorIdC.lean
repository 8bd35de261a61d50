/- What the document's Words and Word return. Conditions: none. -/
import Derived.Test.YtijbahdpblopjaaDoorIdB
import Derived.Test.YtijbahdpblopjaaDoorStr
namespace Go.Proofs.YtijbahdpblopjaaDoor
open Go.RowKit
set_option linter.unusedVariables false

def wordsS : List ByteArray := wordsL.map fun l => ⟨l.toArray⟩

theorem wordsS_at (k : Nat) (h : k < 24) : ∃ (l : List UInt8) (x : ByteArray), wordsS[k]? = some x ∧ x.toList = l ∧ l ∈ wordsL := by
  have hl : k < wordsL.length := h
  refine ⟨wordsL[k], ⟨wordsL[k].toArray⟩, ?_, ?_, List.getElem_mem hl⟩
  · simp [wordsS, List.getElem?_eq_getElem hl]
  · rw [Lib.toList_data]

theorem wordsS_all {s : ByteArray} (h : ∀ j, j < 24 → ((wordsS[j]?.getD ByteArray.empty).toList == s.toList) = false) : wordB s.data.toList = false := by
  apply word_no
  intro l hl
  obtain ⟨k, hk, e⟩ := List.getElem_of_mem hl
  have h1 := h k hk
  have h2 : wordsS[k]? = some ⟨l.toArray⟩ := by
    simp [wordsS, List.getElem?_eq_getElem hk, e]
  rw [h2] at h1
  simp only [Option.getD_some, Lib.toList_data] at h1
  rw [Lib.toList_data]
  rw [beq_eq_false_iff_ne] at h1 ⊢
  exact fun e => h1 e.symm

set_option maxRecDepth 100000 in
set_option maxHeartbeats 1000000 in
theorem refWords (w : World) : Calls Tryd.prog 75 #[] w fun e w' => ∃ A, e = .returned (.slice A 24 24) ∧ RdT w' A 24 wordsS ∧ Below w.heap.size w w' := by
  have HL := Lib.hid fun (cs : Array Value) (T : TypeId) => RdT.lit w T wordsS 24 rfl (by omega) cs
  go_enter Tryd.func75, Tryd.ntmps75
  go_wp2
  go_ret
  exact ⟨_, rfl, HL.out _ _ (by rfl), (Below.refl _ _).alloc (Nat.le_refl _) _⟩

set_option maxRecDepth 100000 in
set_option maxHeartbeats 1000000 in
theorem refWord (s : ByteArray) (w : World) : Calls Tryd.prog 58 #[.string s] w fun e w' => e = .returned (.bool (wordB s.data.toList)) ∧ Below w.heap.size w w' := by
  go_enter Tryd.func58, Tryd.ntmps58
  go_wp2_with fail
  refine (refWords _).mono ?_
  rintro e w' ⟨A, rfl, hrd, hbel⟩
  have HB := Lib.hid hbel
  obtain ⟨b, off, rfl, hb, hc⟩ := hrd.at_ (i := 0) (by omega)
  have HC := Lib.hid hc
  clear hbel hrd hc
  go_wp2_with fail
  go_loop [4] (fun i => ∃ k : Nat, k ≤ 24 ∧ i = .int .i64 k ∧ ∀ j, j < k → ((wordsS[j]?.getD ByteArray.empty).toList == s.toList) = false) (fun i => 24 - (intOf i).toNat)
  case atStart => exact ⟨0, Nat.zero_le _, rfl, fun j hj => absurd hj (by omega)⟩
  case round =>
    obtain ⟨k, hk, rfl, hall⟩ := hrel
    have HA := Lib.hid hall
    clear hall
    by_cases hlt : k < 24
    · obtain ⟨l, x, hx, hxl, hm⟩ := wordsS_at k hlt
      have hck := HC.out k hlt
      rw [hx] at hck
      simp only [Option.getD_some] at hck
      have HX := Lib.hid hx
      have HXL := Lib.hid hxl
      clear hx hxl
      by_cases heq : (x.toList == s.toList) = true
      · go_wp2
        go_ret
        refine ⟨ret_bool ?_, HB.out⟩
        exact (word_yes (l := l) (by rw [beq_iff_eq] at heq ⊢; rw [← heq, HXL.out]) hm).symm
      · have heq : (x.toList == s.toList) = false := by simpa using heq
        have HE := Lib.hid heq
        go_wp2
        go_round
        case rel =>
          refine ⟨k + 1, by omega, by go_num, fun j hj => ?_⟩
          rcases Nat.lt_or_ge j k with h | h
          · exact HA.out j h
          · obtain rfl : j = k := by omega
            rw [HX.out]
            exact HE.out
        case measure => simp [intOf]; omega
    · go_wp2
      go_ret
      exact ⟨ret_bool (wordsS_all fun j hj => HA.out j (by omega)).symm, HB.out⟩
end Go.Proofs.YtijbahdpblopjaaDoor
