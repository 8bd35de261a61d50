/- What the document's Once, cut and Path return. Conditions: none. -/
import Derived.Test.YtkgeigckekccgaaDoorIdG
import Derived.Maps.AppendAt
namespace Go.Proofs.YtkgeigckekccgaaDoor
open Go.RowKit
set_option linter.unusedVariables false

/-- That none of the texts ahead of j is the one at k. -/
def apartTo (ss : List ByteArray) (x : ByteArray) (j : Nat) : Prop := ∀ i, i < j → ((ss[i]?.getD ByteArray.empty).toList == x.toList) = false

theorem apart_seen {ss : List ByteArray} {k : Nat} (h : k < ss.length) (H : apartTo ss (ss[k]?.getD ByteArray.empty) k) : seenAt ss k = false := by
  refine decide_eq_false fun hm => ?_
  obtain ⟨y, hy, e⟩ := List.mem_map.1 hm
  obtain ⟨i, hi, ey⟩ := List.getElem_of_mem hy
  rw [List.length_take] at hi
  have h1 := H i (by omega)
  rw [List.getElem_take] at ey
  rw [List.getElem?_eq_getElem (show i < ss.length by omega), Option.getD_some, ey, Lib.toList_data, Lib.toList_data, e] at h1
  simp at h1

theorem meets_seen {ss : List ByteArray} {i k : Nat} (h : k < ss.length) (hi : i < k) (he : ((ss[i]?.getD ByteArray.empty).toList == (ss[k]?.getD ByteArray.empty).toList) = true) : seenAt ss k = true := by
  refine decide_eq_true (List.mem_map.2 ⟨ss[i]?.getD ByteArray.empty, ?_, ?_⟩)
  · rw [List.getElem?_eq_getElem (show i < ss.length by omega), Option.getD_some]
    exact List.mem_take_iff_getElem.2 ⟨i, by omega, rfl⟩
  · rw [Lib.toList_data, Lib.toList_data] at he
    exact beq_iff_eq.1 he

end Go.Proofs.YtkgeigckekccgaaDoor
