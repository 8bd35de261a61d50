/- The text of every expression: of the document's text. Conditions: names of at most 1000 bytes, few arms, numbers of 64 bits. -/
import Derived.Test.YtijbahdpblopjaaDoorShC
namespace Go.Proofs.YtijbahdpblopjaaDoor
open Go.RowKit Go.Sort
set_option linter.unusedVariables false
set_option linter.unusedSimpArgs false

/-- The text of an expression: empty, if it is not right. -/
def textS (x : Ex) : ByteArray := if rightX x = true then ofB (textL x) else ⟨#[]⟩
theorem right_size {x : Ex} (h : rightX x = true) : sizeX x ≤ 60 := by
  simp only [rightX, Bool.and_eq_true, Bool.not_eq_true', decide_eq_false_iff_not] at h
  omega

end Go.Proofs.YtijbahdpblopjaaDoor
