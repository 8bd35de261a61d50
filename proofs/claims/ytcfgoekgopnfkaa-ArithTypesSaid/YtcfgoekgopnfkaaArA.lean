/- What the operators' small functions return, of both texts. Conditions: none. -/
import Derived.Test.YtcfgoekgopnfkaaArM
import Derived.Test.YtcfgoekgopnfkaaRows
namespace Go.Proofs.Ytcfgoekgopnfkaa
open Go.RowKit
set_option linter.unusedVariables false

theorem ret_two {k k' : IntKind} {a b a' b' : Int} (h : a = a') (h' : b = b') : Ending.returned (.tuple #[.int k a, .int k' b]) = .returned (.tuple #[.int k a', .int k' b']) := by rw [h, h']

theorem arTruth (b : Bool) (w : World) : Calls Try.prog 18 #[.bool b] w fun r w' => r = .returned (.int .i64 (trI b)) ∧ w = w' := by
  cases b
  all_goals
    go_enter Try.func18, Try.ntmps18
    go_wp2_with fail
    go_ret
    exact ⟨rfl, rfl⟩

theorem refTruth (b : Bool) (w : World) : Calls Try.prog 19 #[.bool b] w fun r w' => r = .returned (.int .i64 (trI b)) ∧ w = w' := by
  cases b
  all_goals
    go_enter Try.func19, Try.ntmps19
    go_wp2_with fail
    go_ret
    exact ⟨rfl, rfl⟩

theorem lawNum (e : Int) (w : World) : Calls Try.prog 10 #[.int .i64 e] w fun r w' => r = .returned (.int .i64 e) ∧ w = w' := by
  go_enter Try.func10, Try.ntmps10
  go_wp2_with fail
  go_ret
  exact ⟨rfl, rfl⟩

theorem arJoin (op : Int) (x y : Bool) (hop : op = 8 ∨ op = 9 ∨ op = 10) (w : World) :
    Calls Try.prog 21 #[.int .i64 op, .int .i64 (trI x), .int .i64 (trI y)] w fun r w' => r = .returned (.int .i64 (trI (joinI op x y))) ∧ w = w' := by
  rcases hop with rfl | rfl | rfl
  all_goals
    cases x <;> cases y
    all_goals
      have e0 : trI false = 0 := rfl
      have e1 : trI true = 1 := rfl
      simp only [e0, e1]
      go_enter Try.func21, Try.ntmps21
      go_wp2_with fail
      go_ret
      exact ⟨rfl, rfl⟩

set_option maxHeartbeats 1000000 in
theorem arHolds (op a b : Int) (hop : 11 ≤ op ∧ op ≤ 16) (w : World) :
    Calls Try.prog 22 #[.int .i64 op, .int .i64 a, .int .i64 b] w fun r w' => r = .returned (.bool (holdsI op a b)) ∧ w = w' := by
  obtain rfl | rfl | rfl | rfl | rfl | rfl : op = 11 ∨ op = 12 ∨ op = 13 ∨ op = 14 ∨ op = 15 ∨ op = 16 := by omega
  all_goals
    go_enter Try.func22, Try.ntmps22
    go_wp2_with fail
    go_ret
    exact ⟨ret_bool (by simp [holdsI, Bool.beq_eq_decide_eq, bne]), rfl⟩

set_option maxHeartbeats 1000000 in
theorem arDivide (op a b : Int) (hop : op = 6 ∨ op = 7) (w : World) :
    Calls Try.prog 20 #[.int .i64 op, .int .i64 a, .int .i64 b] w fun r w' => r = .returned (.tuple #[.int .i64 (binI op a b).1, .int .i64 (binI op a b).2]) ∧ w = w' := by
  by_cases hb : b = 0
  · subst hb
    rcases hop with rfl | rfl
    all_goals
      go_enter Try.func20, Try.ntmps20
      go_wp2_with fail
      go_ret2
      exact ⟨rfl, rfl⟩
  · have hb' : (b == 0) = false := by simpa using hb
    rcases hop with rfl | rfl
    all_goals
      go_enter Try.func20, Try.ntmps20
      go_wp2_with fail
      go_ret2
      exact ⟨ret_two (by simp [binI, hb]) (by simp [binI, hb]), rfl⟩

set_option maxHeartbeats 1000000 in
theorem arUn (op a : Int) (w : World) :
    Calls Try.prog 6 #[.int .i64 op, .int .i64 a] w fun r w' => r = .returned (.tuple #[.int .i64 (unI op a).1, .int .i64 (unI op a).2]) ∧ w = w' := by
  by_cases o1 : op = 1
  · subst o1
    go_enter Try.func6, Try.ntmps6
    go_wp2_with fail
    go_ret2
    exact ⟨rfl, rfl⟩
  · by_cases o2 : op = 2
    · subst o2
      go_enter Try.func6, Try.ntmps6
      go_wp2_with fail
      refine (arTruth _ _).mono ?_
      rintro r w1 ⟨rfl, rfl⟩
      go_wp2_with fail
      go_ret2
      exact ⟨ret_two (by simp [unI, Bool.beq_eq_decide_eq]) rfl, rfl⟩
    · have b1 : (op == 1) = false := by simpa using o1
      have b2 : (op == 2) = false := by simpa using o2
      go_enter Try.func6, Try.ntmps6
      go_wp2_with fail
      go_ret2
      exact ⟨ret_two (by simp [unI, o1, o2]) (by simp [unI, o1, o2]), rfl⟩

set_option maxHeartbeats 1000000 in
theorem refUn (op a : Int) (w : World) :
    Calls Try.prog 7 #[.int .i64 op, .int .i64 a] w fun r w' => r = .returned (.tuple #[.int .i64 (unI op a).1, .int .i64 (unI op a).2]) ∧ w = w' := by
  by_cases o1 : op = 1
  · subst o1
    have HN := Lib.hid (neg_ref a)
    go_enter Try.func7, Try.ntmps7
    go_wp2_with fail
    go_ret2
    exact ⟨ret_two (by simp only [u64_left]; exact HN.out) rfl, rfl⟩
  · by_cases o2 : op = 2
    · subst o2
      go_enter Try.func7, Try.ntmps7
      go_wp2_with fail
      refine (refTruth _ _).mono ?_
      rintro r w1 ⟨rfl, rfl⟩
      go_wp2_with fail
      go_ret2
      exact ⟨ret_two (by simp [unI, Bool.beq_eq_decide_eq]) rfl, rfl⟩
    · have b1 : (op == 1) = false := by simpa using o1
      have b2 : (op == 2) = false := by simpa using o2
      go_enter Try.func7, Try.ntmps7
      go_wp2_with fail
      go_ret2
      exact ⟨ret_two (by simp [unI, o1, o2]) (by simp [unI, o1, o2]), rfl⟩
end Go.Proofs.Ytcfgoekgopnfkaa
