/- The types of what the operators tell, of both texts. Conditions: none. -/
import Derived.Test.YtcfgoekgopnfkaaArC
import Derived.Lib.QuietBelow
import Derived.Sort.Grow
import Derived.Laws.ResultCell
import Derived.Laws.Rows
import Derived.Deep.RegionHeld3
namespace Go.Proofs.Ytcfgoekgopnfkaa
open Go.RowKit Go.Sort
set_option linter.unusedVariables false

/-- A type: its kind, its enum, its length. -/
def tyV (k e l : Int) : Value := .agg #[.int .i64 k, .int .i64 e, .int .i64 l]

theorem cell3 (w : World) (T : TypeId) (a b c : Value) : (w.alloc (.cells #[a, b, c] T)).cell? ⟨w.heap.size, 0, none⟩ = some a ∧ (w.alloc (.cells #[a, b, c] T)).cell? ⟨w.heap.size, 1, none⟩ = some b ∧ (w.alloc (.cells #[a, b, c] T)).cell? ⟨w.heap.size, 2, none⟩ = some c := by
  refine ⟨?_, ?_, ?_⟩ <;> simp [go_sem]

/-- What a struct of three cells is as an object of its own. -/
abbrev tyO (k e l : Int) : Obj := .cells #[.int .i64 k, .int .i64 e, .int .i64 l] 33

theorem ty_info : (Try.prog.info? 33).map (·.size) = some 3 := by kernel_rfl

/-- A result that lies in a cell, alone or with a second one. -/
theorem res_ty {fn : Func} {p : Tmp} (h : fn.results = #[.cell p 33]) (tmps : Array Value) (w : World) (g : Nat) (k e l : Int)
    (hp : tmps.getD p undef = .pointer (some ⟨g, 0, none⟩)) (hg : w.heap[g]? = some (tyO k e l)) : (results fn tmps).run Try.prog w = .ok (tyV k e l) w :=
  results_cell_row h tmps w g _ _ _ _ hp hg Try.underlying33 rfl ty_info
theorem res_ty2 {fn : Func} {p u : Tmp} (h : fn.results = #[.cell p 33, .tmp u]) (tmps : Array Value) (w : World) (g : Nat) (k e l : Int)
    (hp : tmps.getD p undef = .pointer (some ⟨g, 0, none⟩)) (hg : w.heap[g]? = some (tyO k e l)) : (results fn tmps).run Try.prog w = .ok (.tuple #[tyV k e l, tmps.getD u undef]) w := by
  rw [results_cell_tmp h, hp]
  have hl := run_loadVar_row (P := Try.prog) w g 33 33 _ _ _ hg Try.underlying33 rfl ty_info
  simp [asAddr, Result.andThen, hl]
  rfl

set_option maxHeartbeats 1000000 in
theorem arOne (k : Int) (w : World) :
    Calls Try.prog 25 #[.int .i64 k] w fun r w' => r = .returned (tyV k 0 0) ∧ w' = w.alloc (tyO k 0 0) := by
  unfold tyV tyO
  go_enter Try.func25, Try.ntmps25
  go_wp2_with fail
  exact bodyPost_ret (res_ty rfl _ _ w.heap.size k 0 0 rfl (heap_alloc_new _ _)) rfl ⟨rfl, rfl⟩

set_option maxHeartbeats 1000000 in
theorem refPlain (k : Int) (w : World) :
    Calls Try.prog 26 #[.int .i64 k] w fun r w' => r = .returned (tyV k 0 0) ∧ w' = w.alloc (tyO k 0 0) := by
  unfold tyV tyO
  go_enter Try.func26, Try.ntmps26
  go_wp2_with fail
  exact bodyPost_ret (res_ty rfl _ _ w.heap.size k 0 0 rfl (heap_alloc_new _ _)) rfl ⟨rfl, rfl⟩

set_option maxHeartbeats 1000000 in
theorem arOnly_yes (k e l : Int) (w : World) :
    Calls Try.prog 24 #[tyV k e l, .bool true] w fun r w' => r = .returned (.tuple #[tyV k e l, .bool true]) ∧ w' = (w.alloc (tyO k e l)).alloc (tyO k e l) := by
  unfold tyV tyO
  go_enter Try.func24, Try.ntmps24
  go_wp2_with fail
  exact bodyPost_ret (res_ty2 rfl _ _ (w.heap.size + 1) k e l rfl (heap_alloc2_new _ _ _)) rfl ⟨rfl, rfl⟩

set_option maxHeartbeats 1000000 in
theorem arOnly_no (k e l : Int) (w : World) :
    Calls Try.prog 24 #[tyV k e l, .bool false] w fun r w' => r = .returned (.tuple #[tyV 0 0 0, .bool false]) ∧ w' = (w.alloc (tyO k e l)).alloc (tyO 0 0 0) := by
  unfold tyV tyO
  go_enter Try.func24, Try.ntmps24
  go_wp2_with fail
  exact bodyPost_ret (res_ty2 rfl _ _ (w.heap.size + 1) 0 0 0 rfl (heap_alloc2_new _ _ _)) rfl ⟨rfl, rfl⟩


theorem heap_up {w : World} {i : Nat} {o : Obj} (B : Obj) (h : w.heap[i]? = some o) : (w.alloc B).heap[i]? = some o := by
  have hi := (Array.getElem?_eq_some_iff.1 h).1
  show (w.heap.push B)[i]? = some o
  rw [Array.getElem?_push, if_neg (Nat.ne_of_lt hi)]
  exact h
theorem heap_drew {w : World} {i : Nat} {o : Obj} (h : w.heap[i]? = some o) : w.drew.heap[i]? = some o := h

/-- A type, or none. -/
def tyR (o : Option Int) : Value := match o with
  | some k => tyV k 0 0
  | none => tyV 0 0 0
def unTyI (op k e l : Int) : Option Int :=
  if op = 1 ∧ k = 1 ∧ e = 0 ∧ l = 0 then some 1 else if op = 2 ∧ k = 2 ∧ e = 0 ∧ l = 0 then some 2 else none
end Go.Proofs.Ytcfgoekgopnfkaa
