/- What ident's Word, and the document's, return. Conditions: none. -/
import Derived.Test.YtijbahdpblopjaaGreatDoorIdA
namespace Go.Proofs.YtijbahdpblopjaaGreatDoor
open Go.RowKit
set_option linter.unusedVariables false

theorem word_yes {s : ByteArray} {l : List UInt8} (h : (s.toList == l) = true) (hl : l ∈ wordsL) : wordB s.data.toList = true := by
  rw [Lib.toList_data] at h
  rw [beq_iff_eq.1 h]
  simp [wordB, hl]

theorem both_ways {s : ByteArray} {l : List UInt8} (h : (s.toList == l) = true) (h2 : (s.toList == l) = false) : False := by
  rw [h] at h2
  cases h2

theorem word_no {s : ByteArray} (h : ∀ l ∈ wordsL, (s.toList == l) = false) : wordB s.data.toList = false := by
  simp only [wordB, decide_eq_false_iff_not]
  intro hm
  have := h _ hm
  rw [Lib.toList_data] at this
  simp at this

set_option maxRecDepth 100000 in
set_option maxHeartbeats 4000000 in
theorem idWord (s : ByteArray) (w : World) : Calls Tryz.prog 72 #[.string s] w fun e w' => e = .returned (.bool (wordB s.data.toList)) ∧ w = w' := by
  go_enter Tryz.func72, Tryz.ntmps72
  go_wp2
  all_goals
    go_ret
    first
      | exact ⟨ret_bool (word_yes (by assumption) (by decide)).symm, rfl⟩
      | (exfalso; exact both_ways (by assumption) (by assumption))
      | exact ⟨ret_bool (word_no (fun l hl => by simp only [wordsL, List.mem_cons, List.not_mem_nil, or_false] at hl; rcases hl with h | h | h | h | h | h | h | h | h | h | h | h | h | h | h | h | h | h | h | h | h | h | h | h <;> subst h <;> assumption)).symm, rfl⟩
end Go.Proofs.YtijbahdpblopjaaGreatDoor
