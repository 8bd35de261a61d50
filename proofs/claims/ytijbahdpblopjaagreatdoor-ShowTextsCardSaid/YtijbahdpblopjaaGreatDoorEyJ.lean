/- Which variables an expression names: of the program's text. Conditions: at most 1000000 parts. -/
import Derived.Test.YtijbahdpblopjaaGreatDoorEyF
import Derived.Test.YtijbahdpblopjaaGreatDoorExY
import Derived.RangeFuncBox
import Derived.Maps.AppendAt
namespace Go.Proofs.YtijbahdpblopjaaGreatDoor
open Go.RowKit Go.Shelf
set_option linter.unusedVariables false
set_option linter.unusedSimpArgs false
attribute [local go_sem] Oper.semAt_some

theorem stringCells (l : List ByteArray) : ∀ u ∈ l.map Value.string, u.oneCell' = true := by
  intro u hu
  simp only [List.mem_map] at hu
  obtain ⟨z, _, rfl⟩ := hu
  rfl

/-- Behind an append to a row that a box holds, and the store of it: as Boxed.appended, with another bound for the world. -/
theorem boxedAppended {W w1 : World} {n₀ m₀ B : Nat} {t e : TypeId} {size : Nat} {v v' : Value} {k m : Nat} {xs ys : List Value} {tmp : Obj}
    (hv : Boxed W B t v) (hte : t ≠ e) (hrow : W.ownsRow n₀ e size v k xs) (hn₀ : n₀ ≤ W.heap.size) (hm : m₀ ≤ n₀) (hB : m₀ ≤ B) (he : e ≠ 25) (ht : t ≠ 25)
    (hown' : w1.ownsRow n₀ e size v' m ys) (hgrow : (W.alloc tmp).grownBy w1 v.ownBlock) :
    Boxed w1 B t v ∧ Boxed (w1.setCell ⟨B, 0, none⟩ v') B t v' ∧ (w1.setCell ⟨B, 0, none⟩ v').ownsRow n₀ e size v' m ys ∧ KeepsOthers W (w1.setCell ⟨B, 0, none⟩ v') ∧ Below m₀ W (w1.setCell ⟨B, 0, none⟩ v') ∧ KeepsE W (w1.setCell ⟨B, 0, none⟩ v') := by
  have hv1 : Boxed w1 B t v := (hv.alloc tmp).kept hgrow (hv.not_row hte hrow)
  refine ⟨hv1, hv1.set v', hown'.kept (grownBy_setCell' w1 B v') (.inr (hv1.not_row hte hown').symm), ?_, ?_, ?_⟩
  · refine ((KeepsOthers.alloc W tmp).trans (KeepsOthers.of_grownBy hgrow fun j o ej hj => ?_)).trans (KeepsOthers.setCell _ _ _)
    rcases (hrow.alloc tmp).2 with ⟨rfl, _⟩ | ⟨g, cap, cur, rfl, _, hgb, _⟩
    · simp [Value.ownBlock] at ej
    · obtain rfl : g = j := by simpa [Value.ownBlock] using ej
      rw [hgb] at hj; cases hj; rfl
  · refine (((Below.refl m₀ W).alloc (by omega) tmp).grown hgrow (by simp; omega) fun j ej => ?_).setCell (p := ⟨B, 0, none⟩) hB v'
    have := (hrow.lt j ej).1
    omega
  · refine KeepsE.trans (fun k cs hh e1 => ?_) (KeepsE.setCell hv1 ht _)
    have hk := (Array.getElem?_eq_some_iff.1 e1).1
    have e2 := (Below.heap_alloc W tmp k hk).trans e1
    refine (hgrow.block k (by simp; omega) ?_).trans e2
    intro e3
    rcases hrow.2 with ⟨rfl, _⟩ | ⟨g, cap, cur, rfl, _, hgb, _⟩
    · simp [Value.ownBlock] at e3
    · obtain rfl : k = g := by simpa [Value.ownBlock] using e3
      rw [hgb] at e1
      injection e1 with e1
      injection e1 with _ e4
      exact he e4

/-- A block of cells abides the turn of a block that is no cells. -/
theorem blkOwn {β : Type} (B : Nat) (cs : Array Value) (t : TypeId) : Own (fun (_ : β) W => W.heap[B]? = some (Obj.cells cs t)) := fun s X Y row hs hg hrow =>
  (hg.block B (Array.getElem?_eq_some_iff.1 hs).1 (fun e' => by obtain ⟨o, ho, hc⟩ := hrow B e'.symm; rw [hs] at ho; cases ho; cases hc)).trans hs
theorem KeepsE.alloc (W : World) (o : Obj) : KeepsE W (W.alloc o) := KeepsE.of_below ((Below.refl _ _).alloc (Nat.le_refl _) o)

/-- Cells lie as they lay where a block of calls to come is emptied. -/
theorem cellKeptPut {W : World} {D : Nat} (hK : W.heap[D]? = some (.deferred (some []))) (p : Addr) : (W.putObj D (.deferred none)).cell? p = W.cell? p := by
  by_cases hp : p.block = D
  · have h1 : (W.putObj D (.deferred none)).heap[D]? = some (.deferred none) := World.putObj_heap_same (Array.getElem?_eq_some_iff.1 hK).1
    simp only [World.cell?, hp, h1, hK]
  · exact World.cell?_of_block (World.putObj_heap_other hp)

/-- The variables of the parts that have come. -/
def varsOf {w : World} {x : Ex} (pre : List (PtIn w x)) : List ByteArray := ((exs pre).filter isVar).map Ex.s
theorem varsOf_yes {w : World} {x : Ex} {pre : List (PtIn w x)} {y : PtIn w x} (h : isVar y.1.x = true) : varsOf (pre ++ [y]) = varsOf pre ++ [y.1.x.s] := by
  simp [varsOf, exs, List.filter_append, h]
theorem varsOf_no {w : World} {x : Ex} {pre : List (PtIn w x)} {y : PtIn w x} (h : isVar y.1.x = false) : varsOf (pre ++ [y]) = varsOf pre := by
  simp [varsOf, exs, List.filter_append, h]
theorem varsOf_len {w : World} {x : Ex} (pre : List (PtIn w x)) : (varsOf pre).length ≤ pre.length := by
  simp only [varsOf, List.length_map]
  exact Nat.le_trans (List.length_filter_le _ _) (by simp [exs])

end Go.Proofs.YtijbahdpblopjaaGreatDoor
