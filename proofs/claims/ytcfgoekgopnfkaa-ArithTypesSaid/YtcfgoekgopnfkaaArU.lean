/- The type of what an operator of one number tells: the program's. Conditions: none. -/
import Derived.Test.YtcfgoekgopnfkaaArT
namespace Go.Proofs.Ytcfgoekgopnfkaa
open Go.RowKit Go.Sort
set_option linter.unusedVariables false

set_option maxHeartbeats 4000000 in
theorem arUnTy1_0 (w : World) :
    Calls Try.prog 12 #[.int .i64 1, tyV 1 0 0] w fun r w' => r = .returned (.tuple #[tyV 1 0 0, .bool true]) ∧ Below w.heap.size w w' := by
  unfold tyV
  go_enter Try.func12, Try.ntmps12
  go_wp2_with fail
  go_region_held3 (fun W => W.cell? ⟨w.heap.size, 0, none⟩ = some (.int .i64 1) ∧ W.cell? ⟨w.heap.size, 1, none⟩ = some (.int .i64 0) ∧ W.cell? ⟨w.heap.size, 2, none⟩ = some (.int .i64 0)) (first | (refine ⟨?_, ?_, ?_⟩ <;> simp [go_sem]) | exact trivial) (first | (go_at_call 25; refine (arOne _ _).mono ?_; unfold tyV tyO; rintro r w1 ⟨rfl, rfl⟩) | (go_at_call 24; refine (arOnly_yes _ _ _ _).mono ?_; unfold tyV tyO; rintro r w1 ⟨rfl, rfl⟩))
  go_wp2_with fail
  refine bodyPost_ret (res_ty2 rfl _ _ (w.heap.size + 1) 1 0 0 rfl ?_) rfl ⟨rfl, ?_⟩
  · (repeat' (first | exact heap_alloc2_new _ _ _ | exact heap_alloc_new _ _ | refine heap_drew ?_ | refine heap_up _ ?_))
  · (repeat' (first | exact Below.refl _ _ | refine Below.drew ?_ | refine Below.alloc ?_ (by simp <;> omega) _))

set_option maxHeartbeats 4000000 in
theorem arUnTy1_1 (k e l : Int) (hk : (k == 1) = false) (w : World) :
    Calls Try.prog 12 #[.int .i64 1, tyV k e l] w fun r w' => r = .returned (.tuple #[tyV 0 0 0, .bool false]) ∧ Below w.heap.size w w' := by
  unfold tyV
  go_enter Try.func12, Try.ntmps12
  go_wp2_with fail
  go_region_held3 (fun W => W.cell? ⟨w.heap.size, 0, none⟩ = some (.int .i64 k) ∧ W.cell? ⟨w.heap.size, 1, none⟩ = some (.int .i64 e) ∧ W.cell? ⟨w.heap.size, 2, none⟩ = some (.int .i64 l)) (first | (refine ⟨?_, ?_, ?_⟩ <;> simp [go_sem]) | exact trivial) (first | (go_at_call 25; refine (arOne _ _).mono ?_; unfold tyV tyO; rintro r w1 ⟨rfl, rfl⟩) | (go_at_call 24; refine (arOnly_no _ _ _ _).mono ?_; unfold tyV tyO; rintro r w1 ⟨rfl, rfl⟩))
  go_wp2_with fail
  refine bodyPost_ret (res_ty2 rfl _ _ (w.heap.size + 1) 0 0 0 rfl ?_) rfl ⟨rfl, ?_⟩
  · (repeat' (first | exact heap_alloc2_new _ _ _ | exact heap_alloc_new _ _ | refine heap_drew ?_ | refine heap_up _ ?_))
  · (repeat' (first | exact Below.refl _ _ | refine Below.drew ?_ | refine Below.alloc ?_ (by simp <;> omega) _))

set_option maxHeartbeats 4000000 in
theorem arUnTy1_2 (e l : Int) (hk : (e == 0) = false) (w : World) :
    Calls Try.prog 12 #[.int .i64 1, tyV 1 e l] w fun r w' => r = .returned (.tuple #[tyV 0 0 0, .bool false]) ∧ Below w.heap.size w w' := by
  unfold tyV
  go_enter Try.func12, Try.ntmps12
  go_wp2_with fail
  go_region_held3 (fun W => W.cell? ⟨w.heap.size, 0, none⟩ = some (.int .i64 1) ∧ W.cell? ⟨w.heap.size, 1, none⟩ = some (.int .i64 e) ∧ W.cell? ⟨w.heap.size, 2, none⟩ = some (.int .i64 l)) (first | (refine ⟨?_, ?_, ?_⟩ <;> simp [go_sem]) | exact trivial) (first | (go_at_call 25; refine (arOne _ _).mono ?_; unfold tyV tyO; rintro r w1 ⟨rfl, rfl⟩) | (go_at_call 24; refine (arOnly_no _ _ _ _).mono ?_; unfold tyV tyO; rintro r w1 ⟨rfl, rfl⟩))
  go_wp2_with fail
  refine bodyPost_ret (res_ty2 rfl _ _ (w.heap.size + 1) 0 0 0 rfl ?_) rfl ⟨rfl, ?_⟩
  · (repeat' (first | exact heap_alloc2_new _ _ _ | exact heap_alloc_new _ _ | refine heap_drew ?_ | refine heap_up _ ?_))
  · (repeat' (first | exact Below.refl _ _ | refine Below.drew ?_ | refine Below.alloc ?_ (by simp <;> omega) _))

set_option maxHeartbeats 4000000 in
theorem arUnTy1_3 (l : Int) (hk : (l == 0) = false) (w : World) :
    Calls Try.prog 12 #[.int .i64 1, tyV 1 0 l] w fun r w' => r = .returned (.tuple #[tyV 0 0 0, .bool false]) ∧ Below w.heap.size w w' := by
  unfold tyV
  go_enter Try.func12, Try.ntmps12
  go_wp2_with fail
  go_region_held3 (fun W => W.cell? ⟨w.heap.size, 0, none⟩ = some (.int .i64 1) ∧ W.cell? ⟨w.heap.size, 1, none⟩ = some (.int .i64 0) ∧ W.cell? ⟨w.heap.size, 2, none⟩ = some (.int .i64 l)) (first | (refine ⟨?_, ?_, ?_⟩ <;> simp [go_sem]) | exact trivial) (first | (go_at_call 25; refine (arOne _ _).mono ?_; unfold tyV tyO; rintro r w1 ⟨rfl, rfl⟩) | (go_at_call 24; refine (arOnly_no _ _ _ _).mono ?_; unfold tyV tyO; rintro r w1 ⟨rfl, rfl⟩))
  go_wp2_with fail
  refine bodyPost_ret (res_ty2 rfl _ _ (w.heap.size + 1) 0 0 0 rfl ?_) rfl ⟨rfl, ?_⟩
  · (repeat' (first | exact heap_alloc2_new _ _ _ | exact heap_alloc_new _ _ | refine heap_drew ?_ | refine heap_up _ ?_))
  · (repeat' (first | exact Below.refl _ _ | refine Below.drew ?_ | refine Below.alloc ?_ (by simp <;> omega) _))

set_option maxHeartbeats 4000000 in
theorem arUnTy2_0 (w : World) :
    Calls Try.prog 12 #[.int .i64 2, tyV 2 0 0] w fun r w' => r = .returned (.tuple #[tyV 2 0 0, .bool true]) ∧ Below w.heap.size w w' := by
  unfold tyV
  go_enter Try.func12, Try.ntmps12
  go_wp2_with fail
  go_region_held3 (fun W => W.cell? ⟨w.heap.size, 0, none⟩ = some (.int .i64 2) ∧ W.cell? ⟨w.heap.size, 1, none⟩ = some (.int .i64 0) ∧ W.cell? ⟨w.heap.size, 2, none⟩ = some (.int .i64 0)) (first | (refine ⟨?_, ?_, ?_⟩ <;> simp [go_sem]) | exact trivial) (first | (go_at_call 25; refine (arOne _ _).mono ?_; unfold tyV tyO; rintro r w1 ⟨rfl, rfl⟩) | (go_at_call 24; refine (arOnly_yes _ _ _ _).mono ?_; unfold tyV tyO; rintro r w1 ⟨rfl, rfl⟩))
  go_wp2_with fail
  refine bodyPost_ret (res_ty2 rfl _ _ (w.heap.size + 1) 2 0 0 rfl ?_) rfl ⟨rfl, ?_⟩
  · (repeat' (first | exact heap_alloc2_new _ _ _ | exact heap_alloc_new _ _ | refine heap_drew ?_ | refine heap_up _ ?_))
  · (repeat' (first | exact Below.refl _ _ | refine Below.drew ?_ | refine Below.alloc ?_ (by simp <;> omega) _))

set_option maxHeartbeats 4000000 in
theorem arUnTy2_1 (k e l : Int) (hk : (k == 2) = false) (w : World) :
    Calls Try.prog 12 #[.int .i64 2, tyV k e l] w fun r w' => r = .returned (.tuple #[tyV 0 0 0, .bool false]) ∧ Below w.heap.size w w' := by
  unfold tyV
  go_enter Try.func12, Try.ntmps12
  go_wp2_with fail
  go_region_held3 (fun W => W.cell? ⟨w.heap.size, 0, none⟩ = some (.int .i64 k) ∧ W.cell? ⟨w.heap.size, 1, none⟩ = some (.int .i64 e) ∧ W.cell? ⟨w.heap.size, 2, none⟩ = some (.int .i64 l)) (first | (refine ⟨?_, ?_, ?_⟩ <;> simp [go_sem]) | exact trivial) (first | (go_at_call 25; refine (arOne _ _).mono ?_; unfold tyV tyO; rintro r w1 ⟨rfl, rfl⟩) | (go_at_call 24; refine (arOnly_no _ _ _ _).mono ?_; unfold tyV tyO; rintro r w1 ⟨rfl, rfl⟩))
  go_wp2_with fail
  refine bodyPost_ret (res_ty2 rfl _ _ (w.heap.size + 1) 0 0 0 rfl ?_) rfl ⟨rfl, ?_⟩
  · (repeat' (first | exact heap_alloc2_new _ _ _ | exact heap_alloc_new _ _ | refine heap_drew ?_ | refine heap_up _ ?_))
  · (repeat' (first | exact Below.refl _ _ | refine Below.drew ?_ | refine Below.alloc ?_ (by simp <;> omega) _))

set_option maxHeartbeats 4000000 in
theorem arUnTy2_2 (e l : Int) (hk : (e == 0) = false) (w : World) :
    Calls Try.prog 12 #[.int .i64 2, tyV 2 e l] w fun r w' => r = .returned (.tuple #[tyV 0 0 0, .bool false]) ∧ Below w.heap.size w w' := by
  unfold tyV
  go_enter Try.func12, Try.ntmps12
  go_wp2_with fail
  go_region_held3 (fun W => W.cell? ⟨w.heap.size, 0, none⟩ = some (.int .i64 2) ∧ W.cell? ⟨w.heap.size, 1, none⟩ = some (.int .i64 e) ∧ W.cell? ⟨w.heap.size, 2, none⟩ = some (.int .i64 l)) (first | (refine ⟨?_, ?_, ?_⟩ <;> simp [go_sem]) | exact trivial) (first | (go_at_call 25; refine (arOne _ _).mono ?_; unfold tyV tyO; rintro r w1 ⟨rfl, rfl⟩) | (go_at_call 24; refine (arOnly_no _ _ _ _).mono ?_; unfold tyV tyO; rintro r w1 ⟨rfl, rfl⟩))
  go_wp2_with fail
  refine bodyPost_ret (res_ty2 rfl _ _ (w.heap.size + 1) 0 0 0 rfl ?_) rfl ⟨rfl, ?_⟩
  · (repeat' (first | exact heap_alloc2_new _ _ _ | exact heap_alloc_new _ _ | refine heap_drew ?_ | refine heap_up _ ?_))
  · (repeat' (first | exact Below.refl _ _ | refine Below.drew ?_ | refine Below.alloc ?_ (by simp <;> omega) _))

set_option maxHeartbeats 4000000 in
theorem arUnTy2_3 (l : Int) (hk : (l == 0) = false) (w : World) :
    Calls Try.prog 12 #[.int .i64 2, tyV 2 0 l] w fun r w' => r = .returned (.tuple #[tyV 0 0 0, .bool false]) ∧ Below w.heap.size w w' := by
  unfold tyV
  go_enter Try.func12, Try.ntmps12
  go_wp2_with fail
  go_region_held3 (fun W => W.cell? ⟨w.heap.size, 0, none⟩ = some (.int .i64 2) ∧ W.cell? ⟨w.heap.size, 1, none⟩ = some (.int .i64 0) ∧ W.cell? ⟨w.heap.size, 2, none⟩ = some (.int .i64 l)) (first | (refine ⟨?_, ?_, ?_⟩ <;> simp [go_sem]) | exact trivial) (first | (go_at_call 25; refine (arOne _ _).mono ?_; unfold tyV tyO; rintro r w1 ⟨rfl, rfl⟩) | (go_at_call 24; refine (arOnly_no _ _ _ _).mono ?_; unfold tyV tyO; rintro r w1 ⟨rfl, rfl⟩))
  go_wp2_with fail
  refine bodyPost_ret (res_ty2 rfl _ _ (w.heap.size + 1) 0 0 0 rfl ?_) rfl ⟨rfl, ?_⟩
  · (repeat' (first | exact heap_alloc2_new _ _ _ | exact heap_alloc_new _ _ | refine heap_drew ?_ | refine heap_up _ ?_))
  · (repeat' (first | exact Below.refl _ _ | refine Below.drew ?_ | refine Below.alloc ?_ (by simp <;> omega) _))

set_option maxHeartbeats 4000000 in
theorem arUnTy_no (op k e l : Int) (h1 : (op == 1) = false) (h2 : (op == 2) = false) (w : World) :
    Calls Try.prog 12 #[.int .i64 op, tyV k e l] w fun r w' => r = .returned (.tuple #[tyV 0 0 0, .bool false]) ∧ Below w.heap.size w w' := by
  unfold tyV
  go_enter Try.func12, Try.ntmps12
  go_wp2_with fail
  refine bodyPost_ret (res_ty2 rfl _ _ (w.heap.size + 1) 0 0 0 rfl ?_) rfl ⟨rfl, ?_⟩
  · (repeat' (first | exact heap_alloc2_new _ _ _ | exact heap_alloc_new _ _ | refine heap_drew ?_ | refine heap_up _ ?_))
  · (repeat' (first | exact Below.refl _ _ | refine Below.drew ?_ | refine Below.alloc ?_ (by simp <;> omega) _))

theorem arUnTy (op k e l : Int) (w : World) :
    Calls Try.prog 12 #[.int .i64 op, tyV k e l] w fun r w' => r = .returned (.tuple #[tyR (unTyI op k e l), .bool (unTyI op k e l).isSome]) ∧ Below w.heap.size w w' := by
  by_cases o1 : op = 1
  · subst o1
    by_cases hk : k = 1
    · subst hk
      by_cases he : e = 0
      · subst he
        by_cases hl : l = 0
        · subst hl
          exact arUnTy1_0 w
        · have e : unTyI 1 1 0 l = none := by simp [unTyI, hl]
          rw [e]
          exact arUnTy1_3 l (by simpa using hl) w
      · have e : unTyI 1 1 e l = none := by simp [unTyI, he]
        rw [e]
        exact arUnTy1_2 _ l (by simpa using he) w
    · have e : unTyI 1 k e l = none := by simp [unTyI, hk]
      rw [e]
      exact arUnTy1_1 k _ l (by simpa using hk) w
  · by_cases o2 : op = 2
    · subst o2
      by_cases hk : k = 2
      · subst hk
        by_cases he : e = 0
        · subst he
          by_cases hl : l = 0
          · subst hl
            exact arUnTy2_0 w
          · have e : unTyI 2 2 0 l = none := by simp [unTyI, hl]
            rw [e]
            exact arUnTy2_3 l (by simpa using hl) w
        · have e : unTyI 2 2 e l = none := by simp [unTyI, he]
          rw [e]
          exact arUnTy2_2 _ l (by simpa using he) w
      · have e : unTyI 2 k e l = none := by simp [unTyI, hk]
        rw [e]
        exact arUnTy2_1 k _ l (by simpa using hk) w
    · have e : unTyI op k e l = none := by simp [unTyI, o1, o2]
      rw [e]
      exact arUnTy_no op k _ l (by simpa using o1) (by simpa using o2) w
end Go.Proofs.Ytcfgoekgopnfkaa
