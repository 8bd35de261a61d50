/- What ident's inner functions of runes return. Conditions: none. -/
import Derived.Test.YtccpihpfpobjpaaDoorBase
import Derived.Test.YtccpihpfpobjpaaDoorIdM
import Derived.Test.YtccpihpfpobjpaaDoorRows
import Derived.Lib.Strings
import Derived.Lib.Bytealg
import Derived.Lib.Walk
namespace Go.Proofs.YtccpihpfpobjpaaDoor
open Go.RowKit
set_option linter.unusedVariables false

set_option maxHeartbeats 400000 in
theorem idSmall (x : Int) (w : World) : Calls Tryd.prog 44 #[.int .i32 x] w fun e w' => e = .returned (.bool (smallB x)) ∧ w = w' := by
  by_cases h1 : 97 ≤ x
  all_goals
    go_enter Tryd.func44, Tryd.ntmps44
    go_wp2
    go_ret
    exact ⟨ret_bool (by rw [Bool.eq_iff_iff]; simp [smallB, h1] <;> omega), rfl⟩

set_option maxHeartbeats 400000 in
theorem idGreat (x : Int) (w : World) : Calls Tryd.prog 46 #[.int .i32 x] w fun e w' => e = .returned (.bool (greatB x)) ∧ w = w' := by
  by_cases h1 : 65 ≤ x
  all_goals
    go_enter Tryd.func46, Tryd.ntmps46
    go_wp2
    go_ret
    exact ⟨ret_bool (by rw [Bool.eq_iff_iff]; simp [greatB, h1] <;> omega), rfl⟩

set_option maxHeartbeats 400000 in
theorem idDigit (x : Int) (w : World) : Calls Tryd.prog 55 #[.int .i32 x] w fun e w' => e = .returned (.bool (digitB x)) ∧ w = w' := by
  by_cases h1 : 48 ≤ x
  all_goals
    go_enter Tryd.func55, Tryd.ntmps55
    go_wp2
    go_ret
    exact ⟨ret_bool (by rw [Bool.eq_iff_iff]; simp [digitB, h1] <;> omega), rfl⟩

set_option maxHeartbeats 800000 in
theorem idInName (x : Int) (w : World) : Calls Tryd.prog 50 #[.int .i32 x] w fun e w' => e = .returned (.bool (nameC x)) ∧ w = w' := by
  by_cases h1 : smallB x = true
  · go_enter Tryd.func50, Tryd.ntmps50
    go_wp2_with fail
    refine (idSmall x _).mono ?_
    rintro e w' ⟨rfl, rfl⟩
    go_wp2_with fail
    go_ret
    exact ⟨ret_bool (by simp [nameC, h1]), rfl⟩
  · have h1 : smallB x = false := by simpa using h1
    by_cases h2 : greatB x = true
    · go_enter Tryd.func50, Tryd.ntmps50
      go_wp2_with fail
      refine (idSmall x _).mono ?_
      rintro e w' ⟨rfl, rfl⟩
      go_wp2_with fail
      refine (idGreat x _).mono ?_
      rintro e w' ⟨rfl, rfl⟩
      go_wp2_with fail
      go_ret
      exact ⟨ret_bool (by simp [nameC, h2]), rfl⟩
    · have h2 : greatB x = false := by simpa using h2
      by_cases h3 : digitB x = true
      all_goals
        go_enter Tryd.func50, Tryd.ntmps50
        go_wp2_with fail
        refine (idSmall x _).mono ?_
        rintro e w' ⟨rfl, rfl⟩
        go_wp2_with fail
        refine (idGreat x _).mono ?_
        rintro e w' ⟨rfl, rfl⟩
        go_wp2_with fail
        refine (idDigit x _).mono ?_
        rintro e w' ⟨rfl, rfl⟩
        go_wp2_with fail
        go_ret
        exact ⟨ret_bool (by rw [Bool.eq_iff_iff]; simp [nameC, h1, h2, h3]), rfl⟩

end Go.Proofs.YtccpihpfpobjpaaDoor
