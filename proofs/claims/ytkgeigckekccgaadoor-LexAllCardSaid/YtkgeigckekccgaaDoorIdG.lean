/- Which lists have no text twice, of the program's and of the document's text. Conditions: none. -/
import Derived.Test.YtkgeigckekccgaaDoorIdF
import Derived.Maps.OwnSet
import Derived.Maps.OwnOps
namespace Go.Proofs.YtkgeigckekccgaaDoor
open Go.RowKit Go.Maps Go.WideMaps
set_option linter.unusedVariables false

theorem keyLaw : Keyed Tryd.prog 9 := string_keyed Tryd.underlying9
/-- The set of the first k texts. -/
def keysTo (ss : List ByteArray) (k : Nat) : DataW Unit := setOf (.agg []) ((ss.take k).map fun s => Lit.string s.data.toList)
def onceTo (ss : List ByteArray) (k : Nat) : Prop := ((ss.take k).map fun s => s.data.toList).Nodup
def seenAt (ss : List ByteArray) (k : Nat) : Bool := decide ((ss[k]?.getD ByteArray.empty).data.toList ∈ (ss.take k).map fun s => s.data.toList)
def onceS (ss : List ByteArray) : Bool := onceB (ss.map fun s => s.data.toList)

theorem keysTo_zero (ss : List ByteArray) : keysTo ss 0 = .map [] := by simp [keysTo, setOf]
theorem take_snocT {ss : List ByteArray} {k : Nat} (h : k < ss.length) : ss.take (k + 1) = ss.take k ++ [ss[k]?.getD ByteArray.empty] := by
  rw [List.take_succ_eq_append_getElem h, List.getElem?_eq_getElem h]
  rfl
theorem keysTo_succ (ss : List ByteArray) (k : Nat) (h : k < ss.length) : keysTo ss (k + 1) = (keysTo ss k).put (.string (ss[k]?.getD ByteArray.empty).data.toList) (.agg []) := by
  unfold keysTo
  rw [take_snocT h, List.map_append]
  exact setOf_snoc _ _ _

theorem any_string (x : List UInt8) : ∀ l : List ByteArray, (l.map fun s => Lit.string s.data.toList).any (fun y => y.sameKey (.string x)) = decide (x ∈ l.map fun s => s.data.toList)
  | [] => rfl
  | a :: r => by
    have e : (Lit.string a.data.toList).sameKey (.string x) = (a.data.toList == x) := rfl
    rw [List.map_cons, List.any_cons, any_string x r, List.map_cons, e, Bool.eq_iff_iff]
    simp only [Bool.or_eq_true, beq_iff_eq, decide_eq_true_eq, List.mem_cons]
    exact ⟨fun h => h.imp Eq.symm id, fun h => h.imp Eq.symm id⟩

theorem has_keysTo (ss : List ByteArray) (k : Nat) : Maps.has (keysTo ss k) (.string (ss[k]?.getD ByteArray.empty).data.toList) = seenAt ss k := by
  unfold keysTo seenAt
  rw [has_setOf _ _ _ (fun y hy => by obtain ⟨_, _, rfl⟩ := List.mem_map.1 hy; trivial), any_string]

theorem onceTo_zero (ss : List ByteArray) : onceTo ss 0 := by simp [onceTo]
theorem onceTo_succ {ss : List ByteArray} {k : Nat} (H : onceTo ss k) (h : k < ss.length) (hn : seenAt ss k = false) : onceTo ss (k + 1) := by
  unfold onceTo at H ⊢
  rw [take_snocT h, List.map_append, List.nodup_append]
  refine ⟨H, by simp, fun a ha b hb => ?_⟩
  simp at hb
  subst hb
  intro e
  subst e
  simp only [seenAt, decide_eq_false_iff_not] at hn
  exact hn ha
theorem onceTo_end {ss : List ByteArray} {k : Nat} (H : onceTo ss k) (h : ss.length ≤ k) : onceS ss = true := by
  unfold onceTo at H
  rw [List.take_of_length_le h] at H
  exact decide_eq_true H
theorem seen_twice {ss : List ByteArray} {k : Nat} (h : k < ss.length) (hn : seenAt ss k = true) : onceS ss = false := by
  simp only [seenAt, decide_eq_true_eq] at hn
  unfold onceS onceB
  refine decide_eq_false fun hd => ?_
  have e : ss = ss.take k ++ ss.drop k := (List.take_append_drop k ss).symm
  rw [e, List.map_append, List.nodup_append] at hd
  have hm : (ss[k]?.getD ByteArray.empty) ∈ ss.drop k := by
    rw [List.getElem?_eq_getElem h, Option.getD_some, List.drop_eq_getElem_cons h]
    exact List.mem_cons_self
  exact hd.2.2 _ hn _ (List.mem_map.2 ⟨_, hm, rfl⟩) rfl

end Go.Proofs.YtkgeigckekccgaaDoor
