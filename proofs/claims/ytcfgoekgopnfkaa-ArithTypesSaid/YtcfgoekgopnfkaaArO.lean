/- A type that came in, opened. Conditions: none. -/
import Derived.Test.YtcfgoekgopnfkaaArT
import Derived.Deep.Slices
import Derived.Deep.Fields
import Derived.ChangeSame
import Derived.SliceStrings
namespace Go.Proofs.Ytcfgoekgopnfkaa
open Go.RowKit Go.ChangeShapes Go.WideShapes Go.Deep
set_option linter.unusedVariables false

theorem cells_ty : Try.prog.cellsOf 33 = 3 := by kernel_rfl
theorem cells_i : Try.prog.cellsOf 3 = 1 := by kernel_rfl

section
variable {H : Type} {enc : TypeId × Value → H} {w : World} {base : Nat} {spare : Nat → Bool} {held : Bool}

/-- A type's cells. -/
theorem ty_cells {fuel : Nat} {cs : List Value} {x : DataW H × List MemPlace} (h : DataW.trod enc Try.prog w base spare held fuel 33 cs = some x) (hl : cs.length = 3) :
    ∃ k e l : Int, cs = [.int .i64 k, .int .i64 e, .int .i64 l] := by
  obtain ⟨ys, m, _, _, _, hy, hf⟩ := DataW.trod_struct Try.underlying33 h
  match cs, hl with
  | [v0, v1, v2], _ =>
    match ys, hy with
    | [y0, y1, y2], _ =>
      have t0 := hf 0 _ rfl
      have t1 := hf 1 _ rfl
      have t2 := hf 2 _ rfl
      simp [cells_i] at t0 t1 t2
      obtain ⟨k, e0, _, _⟩ := DataW.trod_int Try.underlying3 t0
      obtain ⟨e, e1, _, _⟩ := DataW.trod_int Try.underlying3 t1
      obtain ⟨l, e2, _, _⟩ := DataW.trod_int Try.underlying3 t2
      injection e0 with e0
      injection e1 with e1
      injection e2 with e2
      subst e0 e1 e2
      exact ⟨k, e, l, rfl⟩

theorem ty_open {v : Value} {d : DataW H} {ps : List MemPlace} {r : Reach} {b0 : Nat} (hv : Value.okWide Try.prog w r b0 33 v) (h : DataW.Trod enc Try.prog w base spare held 33 v d ps) : ∃ k e l : Int, v = tyV k e l := by
  obtain ⟨cs, rfl, hs⟩ := okWide_struct Try.underlying33 hv
  obtain ⟨fuel, hf⟩ := h
  rw [cells_ty] at hs
  obtain ⟨k, e, l, e1⟩ := ty_cells hf (by simpa [Value.cells] using hs)
  refine ⟨k, e, l, ?_⟩
  unfold tyV
  congr 1
  apply Array.toList_inj.1
  simpa [Value.cells] using e1
end
end Go.Proofs.Ytcfgoekgopnfkaa
