/- Which types are right, how many cells they have, of what: of both texts. Conditions: none. -/
import Derived.Test.YtdnmnfpcgbbplaaDoorTyE
import Derived.Test.YtdnmnfpcgbbplaaDoorRows
namespace Go.Proofs.YtdnmnfpcgbbplaaDoor
open Go.RowKit
set_option linter.unusedVariables false

/-- A type: its kind, its enum, its length. -/
def tyV (k e l : Int) : Value := .agg #[.int .i64 k, .int .i64 e, .int .i64 l]
def rightB (n : Nat) (k e l : Int) : Bool :=
  decide (0 ≤ l ∧ l ≤ 8) && (if k = 1 ∨ k = 2 then decide (e = 0) else decide (k = 3 ∧ 0 ≤ e ∧ e < n))
def cellsN (l : Int) : Int := min (max l 1) 8

section
variable {n : Nat} {k e l : Int}
theorem right_len (h : l < 0 ∨ 8 < l) : rightB n k e l = false := by
  simp only [rightB, decide_eq_false (show ¬ (0 ≤ l ∧ l ≤ 8) by omega), Bool.false_and]
theorem right_base (h : 0 ≤ l ∧ l ≤ 8) (hk : k = 1 ∨ k = 2) : rightB n k e l = decide (e = 0) := by
  simp only [rightB, decide_eq_true h, Bool.true_and, if_pos hk]
theorem right_enum (h : 0 ≤ l ∧ l ≤ 8) (hk : k = 3) : rightB n k e l = decide (0 ≤ e ∧ e < n) := by
  subst hk
  simp [rightB, decide_eq_true h]
theorem right_kind (hk : ¬ (k = 1 ∨ k = 2)) (h3 : k ≠ 3) : rightB n k e l = false := by
  simp [rightB, if_neg hk, h3]
end

set_option maxHeartbeats 2000000 in
theorem tyRight (A : Option Addr) (n c : Nat) (k e l : Int) (w : World) (hn : n ≤ 9223372036854775807) :
    Calls Tryd.prog 22 #[.slice A n c, tyV k e l] w fun r w' => r = .returned (.bool (rightB n k e l)) ∧ Below w.heap.size w w' := by
  unfold tyV
  have HB := Lib.hid ((Below.refl w.heap.size w).alloc (Nat.le_refl _) (.cells #[.int .i64 k, .int .i64 e, .int .i64 l] 24))
  by_cases h1 : l < 0
  · go_enter Tryd.func22, Tryd.ntmps22
    go_wp2_with fail
    go_ret
    exact ⟨ret_bool (right_len (.inl h1)).symm, HB.out⟩
  · by_cases h2 : 8 < l
    · go_enter Tryd.func22, Tryd.ntmps22
      go_wp2_with fail
      go_ret
      exact ⟨ret_bool (right_len (.inr h2)).symm, HB.out⟩
    · have hl : 0 ≤ l ∧ l ≤ 8 := by omega
      have HL := Lib.hid hl
      clear hl
      by_cases k1 : k = 1
      · have HE := Lib.hid (right_base (n := n) (e := e) HL.out (.inl k1))
        subst k1
        go_enter Tryd.func22, Tryd.ntmps22
        go_wp2_with fail
        go_ret
        exact ⟨ret_bool (by rw [HE.out, Bool.eq_iff_iff]; simp), HB.out⟩
      · by_cases k2 : k = 2
        · have HE := Lib.hid (right_base (n := n) (e := e) HL.out (.inr k2))
          subst k2
          go_enter Tryd.func22, Tryd.ntmps22
          go_wp2_with fail
          go_ret
          exact ⟨ret_bool (by rw [HE.out, Bool.eq_iff_iff]; simp), HB.out⟩
        · by_cases k3 : k = 3
          · have HE := Lib.hid (right_enum (n := n) (e := e) HL.out k3)
            subst k3
            by_cases e0 : 0 ≤ e
            all_goals
              go_enter Tryd.func22, Tryd.ntmps22
              go_wp2_with fail
              go_ret
              exact ⟨ret_bool (by rw [HE.out, Bool.eq_iff_iff]; simp; omega), HB.out⟩
          · have HE := Lib.hid (right_kind (n := n) (e := e) (l := l) (by omega) k3)
            have b1 : (k == 1) = false := by simpa using k1
            have b2 : (k == 2) = false := by simpa using k2
            have b3 : (k == 3) = false := by simpa using k3
            go_enter Tryd.func22, Tryd.ntmps22
            go_wp2_with fail
            go_ret
            exact ⟨ret_bool HE.out.symm, HB.out⟩

set_option maxHeartbeats 2000000 in
theorem refRight (A : Option Addr) (n c : Nat) (k e l : Int) (w : World) (hn : n ≤ 9223372036854775807) :
    Calls Tryd.prog 21 #[.slice A n c, tyV k e l] w fun r w' => r = .returned (.bool (rightB n k e l)) ∧ Below w.heap.size w w' := by
  unfold tyV
  have HB := Lib.hid ((Below.refl w.heap.size w).alloc (Nat.le_refl _) (.cells #[.int .i64 k, .int .i64 e, .int .i64 l] 24))
  by_cases h1 : l < 0
  · have HE := Lib.hid (right_len (n := n) (k := k) (e := e) (.inl h1))
    have d1 : decide (l < 0) = true := decide_eq_true h1
    by_cases k0 : k < 1
    · go_enter Tryd.func21, Tryd.ntmps21
      go_wp2_with fail
      go_ret
      exact ⟨ret_bool HE.out.symm, HB.out⟩
    · by_cases k4 : 3 < k
      all_goals
        go_enter Tryd.func21, Tryd.ntmps21
        go_wp2_with fail
        go_ret
        exact ⟨ret_bool HE.out.symm, HB.out⟩
  · by_cases h2 : 8 < l
    · have HE := Lib.hid (right_len (n := n) (k := k) (e := e) (.inr h2))
      by_cases k0 : k < 1
      · go_enter Tryd.func21, Tryd.ntmps21
        go_wp2_with fail
        go_ret
        exact ⟨ret_bool HE.out.symm, HB.out⟩
      · by_cases k4 : 3 < k
        all_goals
          go_enter Tryd.func21, Tryd.ntmps21
          go_wp2_with fail
          go_ret
          exact ⟨ret_bool HE.out.symm, HB.out⟩
    · have hl : 0 ≤ l ∧ l ≤ 8 := by omega
      by_cases k0 : k < 1
      · have HE := Lib.hid (right_kind (n := n) (e := e) (l := l) (show ¬ (k = 1 ∨ k = 2) by omega) (by omega))
        go_enter Tryd.func21, Tryd.ntmps21
        go_wp2_with fail
        go_ret
        exact ⟨ret_bool HE.out.symm, HB.out⟩
      · by_cases k4 : 3 < k
        · have HE := Lib.hid (right_kind (n := n) (e := e) (l := l) (show ¬ (k = 1 ∨ k = 2) by omega) (by omega))
          go_enter Tryd.func21, Tryd.ntmps21
          go_wp2_with fail
          go_ret
          exact ⟨ret_bool HE.out.symm, HB.out⟩
        · by_cases k3 : k = 3
          · have HE := Lib.hid (right_enum (n := n) (e := e) hl k3)
            subst k3
            by_cases e0 : 0 ≤ e
            all_goals
              go_enter Tryd.func21, Tryd.ntmps21
              go_wp2_with fail
              go_ret
              exact ⟨ret_bool (by rw [HE.out, Bool.eq_iff_iff]; simp; omega), HB.out⟩
          · have HE := Lib.hid (right_base (n := n) (e := e) hl (show k = 1 ∨ k = 2 by omega))
            have b3 : (k == 3) = false := by simpa using k3
            go_enter Tryd.func21, Tryd.ntmps21
            go_wp2_with fail
            go_ret
            exact ⟨ret_bool (by rw [HE.out, Bool.eq_iff_iff]; simp), HB.out⟩

set_option maxHeartbeats 1000000 in
theorem tyCells (k e l : Int) (w : World) :
    Calls Tryd.prog 23 #[tyV k e l] w fun r w' => r = .returned (.int .i64 (cellsN l)) ∧ Below w.heap.size w w' := by
  unfold tyV
  have HB := Lib.hid ((Below.refl w.heap.size w).alloc (Nat.le_refl _) (.cells #[.int .i64 k, .int .i64 e, .int .i64 l] 24))
  by_cases h1 : l < 1
  · go_enter Tryd.func23, Tryd.ntmps23
    go_wp2_with fail
    all_goals (try (exfalso; omega))
    all_goals go_ret
    all_goals exact ⟨ret_int (by unfold cellsN; omega), HB.out⟩
  · have h1 : 1 ≤ l := by omega
    by_cases h2 : l ≤ 8
    all_goals
      go_enter Tryd.func23, Tryd.ntmps23
      go_wp2_with fail
      all_goals (try (exfalso; omega))
      all_goals go_ret
      all_goals exact ⟨ret_int (by unfold cellsN; omega), HB.out⟩

set_option maxHeartbeats 1000000 in
theorem refCells (k e l : Int) (w : World) :
    Calls Tryd.prog 24 #[tyV k e l] w fun r w' => r = .returned (.int .i64 (cellsN l)) ∧ Below w.heap.size w w' := by
  unfold tyV
  have HB := Lib.hid ((Below.refl w.heap.size w).alloc (Nat.le_refl _) (.cells #[.int .i64 k, .int .i64 e, .int .i64 l] 24))
  by_cases h1 : l < 1
  · go_enter Tryd.func24, Tryd.ntmps24
    go_wp2_with fail
    go_ret
    exact ⟨ret_int (by unfold cellsN; omega), HB.out⟩
  · by_cases h2 : 8 < l
    all_goals
      go_enter Tryd.func24, Tryd.ntmps24
      go_wp2_with fail
      go_ret
      exact ⟨ret_int (by unfold cellsN; omega), HB.out⟩

end Go.Proofs.YtdnmnfpcgbbplaaDoor
