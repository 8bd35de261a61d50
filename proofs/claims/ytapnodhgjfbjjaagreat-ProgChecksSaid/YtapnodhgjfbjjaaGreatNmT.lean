/- The document's Names: whether two lists of texts are the same. Conditions: none. -/
import Derived.Test.YtapnodhgjfbjjaaGreatStr
import Derived.Test.YtapnodhgjfbjjaaGreatIdM
import Derived.Test.YtapnodhgjfbjjaaGreatRows
import Derived.Lib.Strings
import Derived.Lib.Walk
import Derived.Deep.RegionHeld3
namespace Go.Proofs.YtapnodhgjfbjjaaGreat
open Go.RowKit
set_option linter.unusedVariables false

/-- Whether two lists of texts are the same. -/
def sameT (a b : List ByteArray) : Bool := decide (a.map (fun s => s.toList) = b.map (fun s => s.toList))
def sameTo (a b : List ByteArray) (k : Nat) : Prop := ∀ j, j < k → ((a[j]?.getD ByteArray.empty).toList == (b[j]?.getD ByteArray.empty).toList) = true

section
variable {a b : List ByteArray} {k : Nat}
theorem sameT_len (h : a.length ≠ b.length) : sameT a b = false := decide_eq_false fun e => h (by simpa using congrArg List.length e)
theorem sameT_at (ha : k < a.length) (hb : k < b.length) (h : ((a[k]?.getD ByteArray.empty).toList == (b[k]?.getD ByteArray.empty).toList) = false) : sameT a b = false := decide_eq_false fun e => by
  have h1 := congrArg (fun l => l[k]?) e
  simp only [List.getElem?_map, List.getElem?_eq_getElem ha, List.getElem?_eq_getElem hb, Option.map_some, Option.some.injEq] at h1
  rw [List.getElem?_eq_getElem ha, List.getElem?_eq_getElem hb, Option.getD_some, Option.getD_some, h1] at h
  simp at h
theorem sameT_yes (hl : a.length = b.length) (H : sameTo a b k) (h : a.length ≤ k) : sameT a b = true := decide_eq_true (by
  apply List.ext_getElem
  · simpa using hl
  · intro i h1 h2
    rw [List.length_map] at h1 h2
    have := H i (by omega)
    rw [List.getElem?_eq_getElem h1, List.getElem?_eq_getElem h2, Option.getD_some, Option.getD_some] at this
    simpa using this)
theorem sameTo_succ (H : sameTo a b k) (h : ((a[k]?.getD ByteArray.empty).toList == (b[k]?.getD ByteArray.empty).toList) = true) : sameTo a b (k + 1) := fun j hj => by
  rcases Nat.lt_or_ge j k with h1 | h1
  · exact H j h1
  · obtain rfl : j = k := by omega
    exact h
end

end Go.Proofs.YtapnodhgjfbjjaaGreat
