/- A box and the room for a result; regions that read and make memory. Conditions: none. -/
import Derived.Test.YtcfgoekgopnfkaaArT
import Derived.Deep.DeepCutAuto
import Derived.Laws.CopyOwn
import Derived.Laws.CopyRow
namespace Go.Proofs.Ytcfgoekgopnfkaa
open Go.RowKit Go.Sort
set_option linter.unusedVariables false

theorem refPlainB (k : Int) (w : World) :
    Calls Try.prog 26 #[.int .i64 k] w fun r w' => r = .returned (tyV k 0 0) ∧ Below w.heap.size w w' :=
  (refPlain k w).mono fun r w' ⟨h, h'⟩ => ⟨h, by rw [h']; exact (Below.refl _ _).alloc (Nat.le_refl _) _⟩

theorem heap_below {w w' : World} {i : Nat} {o : Obj} (h : w.heap[i]? = some o) (hb : Below w.heap.size w w') : w'.heap[i]? = some o := by
  rw [hb.block i (Array.getElem?_eq_some_iff.1 h).1]
  exact h

/-- Rows of three whole numbers that lie in a world. -/
def Row3 (W : World) (g : Nat) (k e l : Int) : Prop := W.heap[g]? = some (tyO k e l)
section
variable {W W' : World} {g i : Nat} {k e l k' e' l' : Int}
theorem Row3.lt (h : Row3 W g k e l) : g < W.heap.size := (Array.getElem?_eq_some_iff.1 h).1
theorem Row3.below (h : Row3 W g k e l) (hb : Below W.heap.size W W') : Row3 W' g k e l := heap_below h hb
theorem Row3.regrown (h : Row3 W g k e l) (d : Nat) (os : Array Obj) : Row3 (grow (redrawn W d) os) g k e l := heap_below h (below_regrown W d os)
theorem Row3.alloc (h : Row3 W g k e l) (o : Obj) : Row3 (W.alloc o) g k e l := heap_up o h
theorem Row3.drew (h : Row3 W g k e l) : Row3 W.drew g k e l := h
theorem Row3.set (h : Row3 W g k e l) (k' e' l' : Int) : Row3 (W.setRow g #[.int .i64 k', .int .i64 e', .int .i64 l']) g k' e' l' := setRow_heap _ _ _ _ _ _ h
theorem Row3.other (h : Row3 W g k e l) (hne : g ≠ i) (cs : Array Value) : Row3 (W.setRow i cs) g k e l := (setRow_other _ _ _ _ hne).trans h
theorem Row3.cells (h : Row3 W g k e l) : W.cell? ⟨g, 0, none⟩ = some (.int .i64 k) ∧ W.cell? ⟨g, 1, none⟩ = some (.int .i64 e) ∧ W.cell? ⟨g, 2, none⟩ = some (.int .i64 l) := by
  have hj : ∀ j, W.cell? ⟨g, j, none⟩ = (#[Value.int .i64 k, .int .i64 e, .int .i64 l] : Array Value)[j]? := fun j => by
    have := cell_setRow_same W g j _ #[.int .i64 k, .int .i64 e, .int .i64 l] _ _ h
    rwa [setRow_self W g _ _ _ h] at this
  exact ⟨hj 0, hj 1, hj 2⟩
theorem Row3.new (W : World) (k e l : Int) : Row3 (W.alloc (tyO k e l)) W.heap.size k e l := heap_alloc_new _ _
end

set_option maxHeartbeats 4000000 in
theorem refUnTy1_0 (w : World) :
    Calls Try.prog 13 #[.int .i64 1, tyV 1 0 0] w fun r w' => r = .returned (.tuple #[tyV 1 0 0, .bool true]) ∧ Below w.heap.size w w' := by
  have HC := Lib.hid refPlainB
  have HX0 := Lib.hid ((Row3.new w 1 0 0).alloc (tyO 0 0 0))
  have HR0 : Hid (Row3 ((w.alloc (tyO 1 0 0)).alloc (tyO 0 0 0)) (w.heap.size + 1) 0 0 0) := Lib.hid (heap_alloc2_new _ _ _)
  have HB0 : Hid (Below w.heap.size w ((w.alloc (tyO 1 0 0)).alloc (tyO 0 0 0))) := Lib.hid (by (repeat' (first | exact Below.refl _ _ | refine Below.drew ?_ | refine Below.alloc ?_ (by simp <;> omega) _)))
  unfold tyV at HC ⊢
  go_enter Try.func13, Try.ntmps13
  go_wp2_with fail
  generalize ((w.alloc (.cells #[.int .i64 1, .int .i64 0, .int .i64 0] 33)).alloc (.cells #[.int .i64 0, .int .i64 0, .int .i64 0] 33)) = w1 at *
  have l0 := fun d os => cell_regrown HX0.out.cells.1 d os
  have l1 := fun d os => cell_regrown HX0.out.cells.2.1 d os
  have l2 := fun d os => cell_regrown HX0.out.cells.2.2 d os
  have cA := fun d os => Calls.regrown_of (HC.out 1 (grow (redrawn w1 d) os))
  refine wp_region_quiet_below (by kernel_rfl) (by kernel_rfl) ?_
  repeat (quiet_step (exact cA _ _))
  refine wpQuiet_nil ?_
  intro _ hw'
  obtain ⟨⟨dq, osq⟩, hw''⟩ := hw'
  subst hw''
  have HX := Lib.hid (HX0.out.regrown dq osq)
  have HR := Lib.hid (HR0.out.regrown dq osq)
  have HB := Lib.hid (HB0.out.trans ((below_regrown w1 dq osq).mono HB0.out.size))
  clear cA l0 l1 l2 HX0 HR0 HB0
  generalize grow (redrawn w1 dq) osq = wq at *
  go_wp2_with (first | (refine wpList_load_row rfl _ _ rfl w.heap.size rfl _ _ _ _ HX.out Try.underlying33 rfl ty_info ?_) | (refine wpList_store_row rfl _ _ _ rfl (w.heap.size + 1) _ rfl rfl _ _ HR.out ty_info rfl (by simp [Value.oneCell']) ?_))
  exact bodyPost_ret (res_ty2 rfl _ _ (w.heap.size + 1) 1 0 0 rfl (HR.out.set _ _ _)) rfl ⟨rfl, below_setRow HB.out (by omega) _⟩

set_option maxHeartbeats 4000000 in
theorem refUnTy1_1 (k e l : Int) (hk : (k == 1) = false) (w : World) :
    Calls Try.prog 13 #[.int .i64 1, tyV k e l] w fun r w' => r = .returned (.tuple #[tyV 0 0 0, .bool false]) ∧ Below w.heap.size w w' := by
  have HC := Lib.hid refPlainB
  have HX0 := Lib.hid ((Row3.new w k e l).alloc (tyO 0 0 0))
  have HR0 : Hid (Row3 ((w.alloc (tyO k e l)).alloc (tyO 0 0 0)) (w.heap.size + 1) 0 0 0) := Lib.hid (heap_alloc2_new _ _ _)
  have HB0 : Hid (Below w.heap.size w ((w.alloc (tyO k e l)).alloc (tyO 0 0 0))) := Lib.hid (by (repeat' (first | exact Below.refl _ _ | refine Below.drew ?_ | refine Below.alloc ?_ (by simp <;> omega) _)))
  unfold tyV at HC ⊢
  go_enter Try.func13, Try.ntmps13
  go_wp2_with fail
  generalize ((w.alloc (.cells #[.int .i64 k, .int .i64 e, .int .i64 l] 33)).alloc (.cells #[.int .i64 0, .int .i64 0, .int .i64 0] 33)) = w1 at *
  have l0 := fun d os => cell_regrown HX0.out.cells.1 d os
  have l1 := fun d os => cell_regrown HX0.out.cells.2.1 d os
  have l2 := fun d os => cell_regrown HX0.out.cells.2.2 d os
  have cA := fun d os => Calls.regrown_of (HC.out 1 (grow (redrawn w1 d) os))
  refine wp_region_quiet_below (by kernel_rfl) (by kernel_rfl) ?_
  repeat (quiet_step (exact cA _ _))
  refine wpQuiet_nil ?_
  intro _ hw'
  obtain ⟨⟨dq, osq⟩, hw''⟩ := hw'
  subst hw''
  have HX := Lib.hid (HX0.out.regrown dq osq)
  have HR := Lib.hid (HR0.out.regrown dq osq)
  have HB := Lib.hid (HB0.out.trans ((below_regrown w1 dq osq).mono HB0.out.size))
  clear cA l0 l1 l2 HX0 HR0 HB0
  generalize grow (redrawn w1 dq) osq = wq at *
  go_wp2_with (first | (refine wpList_load_row rfl _ _ rfl w.heap.size rfl _ _ _ _ HX.out Try.underlying33 rfl ty_info ?_) | (refine wpList_store_row rfl _ _ _ rfl (w.heap.size + 1) _ rfl rfl _ _ HR.out ty_info rfl (by simp [Value.oneCell']) ?_))
  exact bodyPost_ret (res_ty2 rfl _ _ (w.heap.size + 1) 0 0 0 rfl (HR.out.set _ _ _)) rfl ⟨rfl, below_setRow HB.out (by omega) _⟩

set_option maxHeartbeats 4000000 in
theorem refUnTy1_2 (e l : Int) (hk : (e == 0) = false) (w : World) :
    Calls Try.prog 13 #[.int .i64 1, tyV 1 e l] w fun r w' => r = .returned (.tuple #[tyV 0 0 0, .bool false]) ∧ Below w.heap.size w w' := by
  have HC := Lib.hid refPlainB
  have HX0 := Lib.hid ((Row3.new w 1 e l).alloc (tyO 0 0 0))
  have HR0 : Hid (Row3 ((w.alloc (tyO 1 e l)).alloc (tyO 0 0 0)) (w.heap.size + 1) 0 0 0) := Lib.hid (heap_alloc2_new _ _ _)
  have HB0 : Hid (Below w.heap.size w ((w.alloc (tyO 1 e l)).alloc (tyO 0 0 0))) := Lib.hid (by (repeat' (first | exact Below.refl _ _ | refine Below.drew ?_ | refine Below.alloc ?_ (by simp <;> omega) _)))
  unfold tyV at HC ⊢
  go_enter Try.func13, Try.ntmps13
  go_wp2_with fail
  generalize ((w.alloc (.cells #[.int .i64 1, .int .i64 e, .int .i64 l] 33)).alloc (.cells #[.int .i64 0, .int .i64 0, .int .i64 0] 33)) = w1 at *
  have l0 := fun d os => cell_regrown HX0.out.cells.1 d os
  have l1 := fun d os => cell_regrown HX0.out.cells.2.1 d os
  have l2 := fun d os => cell_regrown HX0.out.cells.2.2 d os
  have cA := fun d os => Calls.regrown_of (HC.out 1 (grow (redrawn w1 d) os))
  refine wp_region_quiet_below (by kernel_rfl) (by kernel_rfl) ?_
  repeat (quiet_step (exact cA _ _))
  refine wpQuiet_nil ?_
  intro _ hw'
  obtain ⟨⟨dq, osq⟩, hw''⟩ := hw'
  subst hw''
  have HX := Lib.hid (HX0.out.regrown dq osq)
  have HR := Lib.hid (HR0.out.regrown dq osq)
  have HB := Lib.hid (HB0.out.trans ((below_regrown w1 dq osq).mono HB0.out.size))
  clear cA l0 l1 l2 HX0 HR0 HB0
  generalize grow (redrawn w1 dq) osq = wq at *
  go_wp2_with (first | (refine wpList_load_row rfl _ _ rfl w.heap.size rfl _ _ _ _ HX.out Try.underlying33 rfl ty_info ?_) | (refine wpList_store_row rfl _ _ _ rfl (w.heap.size + 1) _ rfl rfl _ _ HR.out ty_info rfl (by simp [Value.oneCell']) ?_))
  exact bodyPost_ret (res_ty2 rfl _ _ (w.heap.size + 1) 0 0 0 rfl (HR.out.set _ _ _)) rfl ⟨rfl, below_setRow HB.out (by omega) _⟩

set_option maxHeartbeats 4000000 in
theorem refUnTy1_3 (l : Int) (hk : (l == 0) = false) (w : World) :
    Calls Try.prog 13 #[.int .i64 1, tyV 1 0 l] w fun r w' => r = .returned (.tuple #[tyV 0 0 0, .bool false]) ∧ Below w.heap.size w w' := by
  have HC := Lib.hid refPlainB
  have HX0 := Lib.hid ((Row3.new w 1 0 l).alloc (tyO 0 0 0))
  have HR0 : Hid (Row3 ((w.alloc (tyO 1 0 l)).alloc (tyO 0 0 0)) (w.heap.size + 1) 0 0 0) := Lib.hid (heap_alloc2_new _ _ _)
  have HB0 : Hid (Below w.heap.size w ((w.alloc (tyO 1 0 l)).alloc (tyO 0 0 0))) := Lib.hid (by (repeat' (first | exact Below.refl _ _ | refine Below.drew ?_ | refine Below.alloc ?_ (by simp <;> omega) _)))
  unfold tyV at HC ⊢
  go_enter Try.func13, Try.ntmps13
  go_wp2_with fail
  generalize ((w.alloc (.cells #[.int .i64 1, .int .i64 0, .int .i64 l] 33)).alloc (.cells #[.int .i64 0, .int .i64 0, .int .i64 0] 33)) = w1 at *
  have l0 := fun d os => cell_regrown HX0.out.cells.1 d os
  have l1 := fun d os => cell_regrown HX0.out.cells.2.1 d os
  have l2 := fun d os => cell_regrown HX0.out.cells.2.2 d os
  have cA := fun d os => Calls.regrown_of (HC.out 1 (grow (redrawn w1 d) os))
  refine wp_region_quiet_below (by kernel_rfl) (by kernel_rfl) ?_
  repeat (quiet_step (exact cA _ _))
  refine wpQuiet_nil ?_
  intro _ hw'
  obtain ⟨⟨dq, osq⟩, hw''⟩ := hw'
  subst hw''
  have HX := Lib.hid (HX0.out.regrown dq osq)
  have HR := Lib.hid (HR0.out.regrown dq osq)
  have HB := Lib.hid (HB0.out.trans ((below_regrown w1 dq osq).mono HB0.out.size))
  clear cA l0 l1 l2 HX0 HR0 HB0
  generalize grow (redrawn w1 dq) osq = wq at *
  go_wp2_with (first | (refine wpList_load_row rfl _ _ rfl w.heap.size rfl _ _ _ _ HX.out Try.underlying33 rfl ty_info ?_) | (refine wpList_store_row rfl _ _ _ rfl (w.heap.size + 1) _ rfl rfl _ _ HR.out ty_info rfl (by simp [Value.oneCell']) ?_))
  exact bodyPost_ret (res_ty2 rfl _ _ (w.heap.size + 1) 0 0 0 rfl (HR.out.set _ _ _)) rfl ⟨rfl, below_setRow HB.out (by omega) _⟩

set_option maxHeartbeats 4000000 in
theorem refUnTy2_0 (w : World) :
    Calls Try.prog 13 #[.int .i64 2, tyV 2 0 0] w fun r w' => r = .returned (.tuple #[tyV 2 0 0, .bool true]) ∧ Below w.heap.size w w' := by
  have HC := Lib.hid refPlainB
  have HX0 := Lib.hid ((Row3.new w 2 0 0).alloc (tyO 0 0 0))
  have HR0 : Hid (Row3 ((w.alloc (tyO 2 0 0)).alloc (tyO 0 0 0)) (w.heap.size + 1) 0 0 0) := Lib.hid (heap_alloc2_new _ _ _)
  have HB0 : Hid (Below w.heap.size w ((w.alloc (tyO 2 0 0)).alloc (tyO 0 0 0))) := Lib.hid (by (repeat' (first | exact Below.refl _ _ | refine Below.drew ?_ | refine Below.alloc ?_ (by simp <;> omega) _)))
  unfold tyV at HC ⊢
  go_enter Try.func13, Try.ntmps13
  go_wp2_with fail
  generalize ((w.alloc (.cells #[.int .i64 2, .int .i64 0, .int .i64 0] 33)).alloc (.cells #[.int .i64 0, .int .i64 0, .int .i64 0] 33)) = w1 at *
  have l0 := fun d os => cell_regrown HX0.out.cells.1 d os
  have l1 := fun d os => cell_regrown HX0.out.cells.2.1 d os
  have l2 := fun d os => cell_regrown HX0.out.cells.2.2 d os
  have cA := fun d os => Calls.regrown_of (HC.out 2 (grow (redrawn w1 d) os))
  refine wp_region_quiet_below (by kernel_rfl) (by kernel_rfl) ?_
  repeat (quiet_step (exact cA _ _))
  refine wpQuiet_nil ?_
  intro _ hw'
  obtain ⟨⟨dq, osq⟩, hw''⟩ := hw'
  subst hw''
  have HX := Lib.hid (HX0.out.regrown dq osq)
  have HR := Lib.hid (HR0.out.regrown dq osq)
  have HB := Lib.hid (HB0.out.trans ((below_regrown w1 dq osq).mono HB0.out.size))
  clear cA l0 l1 l2 HX0 HR0 HB0
  generalize grow (redrawn w1 dq) osq = wq at *
  go_wp2_with (first | (refine wpList_load_row rfl _ _ rfl w.heap.size rfl _ _ _ _ HX.out Try.underlying33 rfl ty_info ?_) | (refine wpList_store_row rfl _ _ _ rfl (w.heap.size + 1) _ rfl rfl _ _ HR.out ty_info rfl (by simp [Value.oneCell']) ?_))
  exact bodyPost_ret (res_ty2 rfl _ _ (w.heap.size + 1) 2 0 0 rfl (HR.out.set _ _ _)) rfl ⟨rfl, below_setRow HB.out (by omega) _⟩

set_option maxHeartbeats 4000000 in
theorem refUnTy2_1 (k e l : Int) (hk : (k == 2) = false) (w : World) :
    Calls Try.prog 13 #[.int .i64 2, tyV k e l] w fun r w' => r = .returned (.tuple #[tyV 0 0 0, .bool false]) ∧ Below w.heap.size w w' := by
  have HC := Lib.hid refPlainB
  have HX0 := Lib.hid ((Row3.new w k e l).alloc (tyO 0 0 0))
  have HR0 : Hid (Row3 ((w.alloc (tyO k e l)).alloc (tyO 0 0 0)) (w.heap.size + 1) 0 0 0) := Lib.hid (heap_alloc2_new _ _ _)
  have HB0 : Hid (Below w.heap.size w ((w.alloc (tyO k e l)).alloc (tyO 0 0 0))) := Lib.hid (by (repeat' (first | exact Below.refl _ _ | refine Below.drew ?_ | refine Below.alloc ?_ (by simp <;> omega) _)))
  unfold tyV at HC ⊢
  go_enter Try.func13, Try.ntmps13
  go_wp2_with fail
  generalize ((w.alloc (.cells #[.int .i64 k, .int .i64 e, .int .i64 l] 33)).alloc (.cells #[.int .i64 0, .int .i64 0, .int .i64 0] 33)) = w1 at *
  have l0 := fun d os => cell_regrown HX0.out.cells.1 d os
  have l1 := fun d os => cell_regrown HX0.out.cells.2.1 d os
  have l2 := fun d os => cell_regrown HX0.out.cells.2.2 d os
  have cA := fun d os => Calls.regrown_of (HC.out 2 (grow (redrawn w1 d) os))
  refine wp_region_quiet_below (by kernel_rfl) (by kernel_rfl) ?_
  repeat (quiet_step (exact cA _ _))
  refine wpQuiet_nil ?_
  intro _ hw'
  obtain ⟨⟨dq, osq⟩, hw''⟩ := hw'
  subst hw''
  have HX := Lib.hid (HX0.out.regrown dq osq)
  have HR := Lib.hid (HR0.out.regrown dq osq)
  have HB := Lib.hid (HB0.out.trans ((below_regrown w1 dq osq).mono HB0.out.size))
  clear cA l0 l1 l2 HX0 HR0 HB0
  generalize grow (redrawn w1 dq) osq = wq at *
  go_wp2_with (first | (refine wpList_load_row rfl _ _ rfl w.heap.size rfl _ _ _ _ HX.out Try.underlying33 rfl ty_info ?_) | (refine wpList_store_row rfl _ _ _ rfl (w.heap.size + 1) _ rfl rfl _ _ HR.out ty_info rfl (by simp [Value.oneCell']) ?_))
  exact bodyPost_ret (res_ty2 rfl _ _ (w.heap.size + 1) 0 0 0 rfl (HR.out.set _ _ _)) rfl ⟨rfl, below_setRow HB.out (by omega) _⟩

set_option maxHeartbeats 4000000 in
theorem refUnTy2_2 (e l : Int) (hk : (e == 0) = false) (w : World) :
    Calls Try.prog 13 #[.int .i64 2, tyV 2 e l] w fun r w' => r = .returned (.tuple #[tyV 0 0 0, .bool false]) ∧ Below w.heap.size w w' := by
  have HC := Lib.hid refPlainB
  have HX0 := Lib.hid ((Row3.new w 2 e l).alloc (tyO 0 0 0))
  have HR0 : Hid (Row3 ((w.alloc (tyO 2 e l)).alloc (tyO 0 0 0)) (w.heap.size + 1) 0 0 0) := Lib.hid (heap_alloc2_new _ _ _)
  have HB0 : Hid (Below w.heap.size w ((w.alloc (tyO 2 e l)).alloc (tyO 0 0 0))) := Lib.hid (by (repeat' (first | exact Below.refl _ _ | refine Below.drew ?_ | refine Below.alloc ?_ (by simp <;> omega) _)))
  unfold tyV at HC ⊢
  go_enter Try.func13, Try.ntmps13
  go_wp2_with fail
  generalize ((w.alloc (.cells #[.int .i64 2, .int .i64 e, .int .i64 l] 33)).alloc (.cells #[.int .i64 0, .int .i64 0, .int .i64 0] 33)) = w1 at *
  have l0 := fun d os => cell_regrown HX0.out.cells.1 d os
  have l1 := fun d os => cell_regrown HX0.out.cells.2.1 d os
  have l2 := fun d os => cell_regrown HX0.out.cells.2.2 d os
  have cA := fun d os => Calls.regrown_of (HC.out 2 (grow (redrawn w1 d) os))
  refine wp_region_quiet_below (by kernel_rfl) (by kernel_rfl) ?_
  repeat (quiet_step (exact cA _ _))
  refine wpQuiet_nil ?_
  intro _ hw'
  obtain ⟨⟨dq, osq⟩, hw''⟩ := hw'
  subst hw''
  have HX := Lib.hid (HX0.out.regrown dq osq)
  have HR := Lib.hid (HR0.out.regrown dq osq)
  have HB := Lib.hid (HB0.out.trans ((below_regrown w1 dq osq).mono HB0.out.size))
  clear cA l0 l1 l2 HX0 HR0 HB0
  generalize grow (redrawn w1 dq) osq = wq at *
  go_wp2_with (first | (refine wpList_load_row rfl _ _ rfl w.heap.size rfl _ _ _ _ HX.out Try.underlying33 rfl ty_info ?_) | (refine wpList_store_row rfl _ _ _ rfl (w.heap.size + 1) _ rfl rfl _ _ HR.out ty_info rfl (by simp [Value.oneCell']) ?_))
  exact bodyPost_ret (res_ty2 rfl _ _ (w.heap.size + 1) 0 0 0 rfl (HR.out.set _ _ _)) rfl ⟨rfl, below_setRow HB.out (by omega) _⟩

set_option maxHeartbeats 4000000 in
theorem refUnTy2_3 (l : Int) (hk : (l == 0) = false) (w : World) :
    Calls Try.prog 13 #[.int .i64 2, tyV 2 0 l] w fun r w' => r = .returned (.tuple #[tyV 0 0 0, .bool false]) ∧ Below w.heap.size w w' := by
  have HC := Lib.hid refPlainB
  have HX0 := Lib.hid ((Row3.new w 2 0 l).alloc (tyO 0 0 0))
  have HR0 : Hid (Row3 ((w.alloc (tyO 2 0 l)).alloc (tyO 0 0 0)) (w.heap.size + 1) 0 0 0) := Lib.hid (heap_alloc2_new _ _ _)
  have HB0 : Hid (Below w.heap.size w ((w.alloc (tyO 2 0 l)).alloc (tyO 0 0 0))) := Lib.hid (by (repeat' (first | exact Below.refl _ _ | refine Below.drew ?_ | refine Below.alloc ?_ (by simp <;> omega) _)))
  unfold tyV at HC ⊢
  go_enter Try.func13, Try.ntmps13
  go_wp2_with fail
  generalize ((w.alloc (.cells #[.int .i64 2, .int .i64 0, .int .i64 l] 33)).alloc (.cells #[.int .i64 0, .int .i64 0, .int .i64 0] 33)) = w1 at *
  have l0 := fun d os => cell_regrown HX0.out.cells.1 d os
  have l1 := fun d os => cell_regrown HX0.out.cells.2.1 d os
  have l2 := fun d os => cell_regrown HX0.out.cells.2.2 d os
  have cA := fun d os => Calls.regrown_of (HC.out 2 (grow (redrawn w1 d) os))
  refine wp_region_quiet_below (by kernel_rfl) (by kernel_rfl) ?_
  repeat (quiet_step (exact cA _ _))
  refine wpQuiet_nil ?_
  intro _ hw'
  obtain ⟨⟨dq, osq⟩, hw''⟩ := hw'
  subst hw''
  have HX := Lib.hid (HX0.out.regrown dq osq)
  have HR := Lib.hid (HR0.out.regrown dq osq)
  have HB := Lib.hid (HB0.out.trans ((below_regrown w1 dq osq).mono HB0.out.size))
  clear cA l0 l1 l2 HX0 HR0 HB0
  generalize grow (redrawn w1 dq) osq = wq at *
  go_wp2_with (first | (refine wpList_load_row rfl _ _ rfl w.heap.size rfl _ _ _ _ HX.out Try.underlying33 rfl ty_info ?_) | (refine wpList_store_row rfl _ _ _ rfl (w.heap.size + 1) _ rfl rfl _ _ HR.out ty_info rfl (by simp [Value.oneCell']) ?_))
  exact bodyPost_ret (res_ty2 rfl _ _ (w.heap.size + 1) 0 0 0 rfl (HR.out.set _ _ _)) rfl ⟨rfl, below_setRow HB.out (by omega) _⟩

set_option maxHeartbeats 4000000 in
theorem refUnTy_no (op k e l : Int) (h1 : (op == 1) = false) (h2 : (op == 2) = false) (w : World) :
    Calls Try.prog 13 #[.int .i64 op, tyV k e l] w fun r w' => r = .returned (.tuple #[tyV 0 0 0, .bool false]) ∧ Below w.heap.size w w' := by
  have HC := Lib.hid refPlainB
  have HX0 := Lib.hid ((Row3.new w k e l).alloc (tyO 0 0 0))
  have HR0 : Hid (Row3 ((w.alloc (tyO k e l)).alloc (tyO 0 0 0)) (w.heap.size + 1) 0 0 0) := Lib.hid (heap_alloc2_new _ _ _)
  have HB0 : Hid (Below w.heap.size w ((w.alloc (tyO k e l)).alloc (tyO 0 0 0))) := Lib.hid (by (repeat' (first | exact Below.refl _ _ | refine Below.drew ?_ | refine Below.alloc ?_ (by simp <;> omega) _)))
  unfold tyV at HC ⊢
  go_enter Try.func13, Try.ntmps13
  go_wp2_with fail
  generalize ((w.alloc (.cells #[.int .i64 k, .int .i64 e, .int .i64 l] 33)).alloc (.cells #[.int .i64 0, .int .i64 0, .int .i64 0] 33)) = w1 at *
  have l0 := fun d os => cell_regrown HX0.out.cells.1 d os
  have l1 := fun d os => cell_regrown HX0.out.cells.2.1 d os
  have l2 := fun d os => cell_regrown HX0.out.cells.2.2 d os
  refine wp_region_quiet_below (by kernel_rfl) (by kernel_rfl) ?_
  repeat (quiet_step (fail))
  refine wpQuiet_nil ?_
  intro _ hw'
  obtain ⟨⟨dq, osq⟩, hw''⟩ := hw'
  subst hw''
  have HX := Lib.hid (HX0.out.regrown dq osq)
  have HR := Lib.hid (HR0.out.regrown dq osq)
  have HB := Lib.hid (HB0.out.trans ((below_regrown w1 dq osq).mono HB0.out.size))
  clear l0 l1 l2 HX0 HR0 HB0
  generalize grow (redrawn w1 dq) osq = wq at *
  go_wp2_with (first | (refine wpList_load_row rfl _ _ rfl w.heap.size rfl _ _ _ _ HX.out Try.underlying33 rfl ty_info ?_) | (refine wpList_store_row rfl _ _ _ rfl (w.heap.size + 1) _ rfl rfl _ _ HR.out ty_info rfl (by simp [Value.oneCell']) ?_))
  exact bodyPost_ret (res_ty2 rfl _ _ (w.heap.size + 1) 0 0 0 rfl (HR.out.set _ _ _)) rfl ⟨rfl, below_setRow HB.out (by omega) _⟩

theorem refUnTy (op k e l : Int) (w : World) :
    Calls Try.prog 13 #[.int .i64 op, tyV k e l] w fun r w' => r = .returned (.tuple #[tyR (unTyI op k e l), .bool (unTyI op k e l).isSome]) ∧ Below w.heap.size w w' := by
  by_cases o1 : op = 1
  · subst o1
    by_cases hk : k = 1
    · subst hk
      by_cases he : e = 0
      · subst he
        by_cases hl : l = 0
        · subst hl
          exact refUnTy1_0 w
        · have e : unTyI 1 1 0 l = none := by simp [unTyI, hl]
          rw [e]
          exact refUnTy1_3 l (by simpa using hl) w
      · have e : unTyI 1 1 e l = none := by simp [unTyI, he]
        rw [e]
        exact refUnTy1_2 _ l (by simpa using he) w
    · have e : unTyI 1 k e l = none := by simp [unTyI, hk]
      rw [e]
      exact refUnTy1_1 k _ l (by simpa using hk) w
  · by_cases o2 : op = 2
    · subst o2
      by_cases hk : k = 2
      · subst hk
        by_cases he : e = 0
        · subst he
          by_cases hl : l = 0
          · subst hl
            exact refUnTy2_0 w
          · have e : unTyI 2 2 0 l = none := by simp [unTyI, hl]
            rw [e]
            exact refUnTy2_3 l (by simpa using hl) w
        · have e : unTyI 2 2 e l = none := by simp [unTyI, he]
          rw [e]
          exact refUnTy2_2 _ l (by simpa using he) w
      · have e : unTyI 2 k e l = none := by simp [unTyI, hk]
        rw [e]
        exact refUnTy2_1 k _ l (by simpa using hk) w
    · have e : unTyI op k e l = none := by simp [unTyI, o1, o2]
      rw [e]
      exact refUnTy_no op k _ l (by simpa using o1) (by simpa using o2) w
end Go.Proofs.Ytcfgoekgopnfkaa
