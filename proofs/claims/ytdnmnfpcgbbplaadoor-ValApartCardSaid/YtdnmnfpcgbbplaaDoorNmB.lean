/- What ident's Word, and the document's, return. Conditions: none. -/
import Derived.Test.YtdnmnfpcgbbplaaDoorNmA
namespace Go.Proofs.YtdnmnfpcgbbplaaDoor
open Go.RowKit
set_option linter.unusedVariables false

theorem word_yes {s : ByteArray} {l : List UInt8} (h : (s.toList == l) = true) (hl : l ∈ wordsL) : wordB s.data.toList = true := by
  rw [Lib.toList_data] at h
  rw [beq_iff_eq.1 h]
  simp [wordB, hl]

theorem both_ways {s : ByteArray} {l : List UInt8} (h : (s.toList == l) = true) (h2 : (s.toList == l) = false) : False := by
  rw [h] at h2
  cases h2

theorem word_no {s : ByteArray} (h : ∀ l ∈ wordsL, (s.toList == l) = false) : wordB s.data.toList = false := by
  simp only [wordB, decide_eq_false_iff_not]
  intro hm
  have := h _ hm
  rw [Lib.toList_data] at this
  simp at this

end Go.Proofs.YtdnmnfpcgbbplaaDoor
