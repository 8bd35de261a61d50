/- Tokens in memory: a block of four cells; results that lie in one. Conditions: none. -/
import Derived.Test.YtkgeigckekccgaaDoorLxS
import Derived.Lib.QuietBelow
import Derived.Sort.Grow
import Derived.Laws.ResultCell
import Derived.Laws.Rows
import Derived.Laws.Tables
import Derived.Laws.CopyOwn
import Derived.Laws.CopyRow
import Derived.Deep.RegionHeld3
import Derived.Deep.DeepCutAuto
namespace Go.Proofs.YtkgeigckekccgaaDoor
open Go.RowKit Go.Sort
set_option linter.unusedVariables false

/-- A token's four cells. -/
def tkA (t : Tk) : Array Value := #[.int .i64 t.k, .string (ofL t.s), .int .i64 t.n, .int .i64 (t.a : Int)]
def tkV (t : Tk) : Value := .agg (tkA t)
def tk0 : Tk := ⟨0, [], 0, 0⟩

/-- The block g of the world holds the token t, as one of type T. -/
def Row4 (T : TypeId) (W : World) (g : Nat) (t : Tk) : Prop := W.heap[g]? = some (.cells (tkA t) T)

section
variable {T : TypeId} {W W' : World} {g i : Nat} {t : Tk}
theorem Row4.lt (h : Row4 T W g t) : g < W.heap.size := (Array.getElem?_eq_some_iff.1 h).1
theorem Row4.below (h : Row4 T W g t) (hb : Below W.heap.size W W') : Row4 T W' g t := by
  unfold Row4
  rw [hb.block g h.lt]
  exact h
theorem Row4.up (h : Row4 T W g t) {B : Nat} (hb : Below B W W') (hg : g < B) : Row4 T W' g t := by
  unfold Row4
  rw [hb.block g hg]
  exact h
theorem Row4.regrown (h : Row4 T W g t) (d : Nat) (os : Array Obj) : Row4 T (grow (redrawn W d) os) g t := h.below (below_regrown W d os)
theorem Row4.alloc (h : Row4 T W g t) (o : Obj) : Row4 T (W.alloc o) g t := h.below ((Below.refl _ _).alloc (Nat.le_refl _) o)
theorem Row4.drew (h : Row4 T W g t) : Row4 T W.drew g t := h
theorem Row4.set (h : Row4 T W g t) (u : Tk) : Row4 T (W.setRow g (tkA u)) g u := setRow_heap _ _ _ _ _ _ h
theorem Row4.other (h : Row4 T W g t) (hne : g ≠ i) (cs : Array Value) : Row4 T (W.setRow i cs) g t := (setRow_other _ _ _ _ hne).trans h
theorem Row4.cell (h : Row4 T W g t) (j : Nat) : W.cell? ⟨g, j, none⟩ = (tkA t)[j]? := by
  have := cell_setRow_same W g j _ (tkA t) _ _ h
  rwa [setRow_self W g _ _ _ h] at this
theorem Row4.c0 (h : Row4 T W g t) : W.cell? ⟨g, 0, none⟩ = some (.int .i64 t.k) := h.cell 0
theorem Row4.c1 (h : Row4 T W g t) : W.cell? ⟨g, 1, none⟩ = some (.string (ofL t.s)) := h.cell 1
theorem Row4.c2 (h : Row4 T W g t) : W.cell? ⟨g, 2, none⟩ = some (.int .i64 t.n) := h.cell 2
theorem Row4.c3 (h : Row4 T W g t) : W.cell? ⟨g, 3, none⟩ = some (.int .i64 (t.a : Int)) := h.cell 3
theorem Row4.new (T : TypeId) (W : World) (t : Tk) : Row4 T (W.alloc (.cells (tkA t) T)) W.heap.size t := heap_alloc_new _ _
theorem tkA_one (t : Tk) : (tkA t).all (·.oneCell') = true := by simp [tkA, Value.oneCell']
end

theorem tk_info : (Tryd.prog.info? 35).map (·.size) = some 4 := by kernel_rfl
theorem tr_info : (Tryd.prog.info? 42).map (·.size) = some 4 := by kernel_rfl

theorem results_cell_tmp2 {fn : Func} {p u v : Tmp} {ty : TypeId} (h : fn.results = #[.cell p ty, .tmp u, .tmp v]) (tmps : Array Value) (P : Program) (w : World) :
    (results fn tmps).run P w =
      ((asAddr (tmps.getD p undef)).run P w).andThen fun a w₁ => ((loadVar ty a).run P w₁).andThen fun x w₂ => .ok (.tuple #[x, tmps.getD u undef, tmps.getD v undef]) w₂ := by
  simp only [results, h]
  simp [Sem.run_bind, Result.andThen]

/-- A token that lies in a cell, and a second result. -/
theorem res_tk2 {fn : Func} {p u : Tmp} (h : fn.results = #[.cell p 35, .tmp u]) (tmps : Array Value) (w : World) (g : Nat) (t : Tk)
    (hp : tmps.getD p undef = .pointer (some ⟨g, 0, none⟩)) (hg : Row4 35 w g t) : (results fn tmps).run Tryd.prog w = .ok (.tuple #[tkV t, tmps.getD u undef]) w := by
  rw [results_cell_tmp h, hp]
  have hl := run_loadVar_row (P := Tryd.prog) w g 35 35 _ _ _ hg Tryd.underlying35 rfl tk_info
  simp [asAddr, Result.andThen, hl]
  rfl
theorem res_tr2 {fn : Func} {p u : Tmp} (h : fn.results = #[.cell p 42, .tmp u]) (tmps : Array Value) (w : World) (g : Nat) (t : Tk)
    (hp : tmps.getD p undef = .pointer (some ⟨g, 0, none⟩)) (hg : Row4 42 w g t) : (results fn tmps).run Tryd.prog w = .ok (.tuple #[tkV t, tmps.getD u undef]) w := by
  rw [results_cell_tmp h, hp]
  have hl := run_loadVar_row (P := Tryd.prog) w g 42 42 _ _ _ hg Tryd.underlying42 rfl tr_info
  simp [asAddr, Result.andThen, hl]
  rfl
theorem res_tr3 {fn : Func} {p u v : Tmp} (h : fn.results = #[.cell p 42, .tmp u, .tmp v]) (tmps : Array Value) (w : World) (g : Nat) (t : Tk)
    (hp : tmps.getD p undef = .pointer (some ⟨g, 0, none⟩)) (hg : Row4 42 w g t) : (results fn tmps).run Tryd.prog w = .ok (.tuple #[tkV t, tmps.getD u undef, tmps.getD v undef]) w := by
  rw [results_cell_tmp2 h, hp]
  have hl := run_loadVar_row (P := Tryd.prog) w g 42 42 _ _ _ hg Tryd.underlying42 rfl tr_info
  simp [asAddr, Result.andThen, hl]
  rfl

/-- What is told of a text's beginning. -/
def tkR : Option (Tk × Nat) → Value
  | some (t, z) => .tuple #[tkV t, .int .i64 (z : Int)]
  | none => .tuple #[tkV tk0, .int .i64 0]

theorem ext_list (s : ByteArray) (n : Nat) : (s.extract 0 n).data.toList = s.data.toList.take n := by
  rw [Lib.extract_data]; simp
end Go.Proofs.YtkgeigckekccgaaDoor
