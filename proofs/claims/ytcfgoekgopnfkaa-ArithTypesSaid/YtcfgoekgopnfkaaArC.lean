/- The examples; the walks of the laws on numbers. Conditions: none. -/
import Derived.Test.YtcfgoekgopnfkaaArB
namespace Go.Proofs.Ytcfgoekgopnfkaa
open Go.RowKit
set_option linter.unusedVariables false

/-- A call of Bin that tells x and e. -/
def BinC (op a b x e : Int) : Prop := ∀ W : World, Calls Try.prog 8 #[.int .i64 op, .int .i64 a, .int .i64 b] W fun r w' => r = .returned (.tuple #[.int .i64 x, .int .i64 e]) ∧ W = w'
theorem binC {op a b x e : Int} (h : binI op a b = (x, e)) : BinC op a b x e := fun W => by
  have := arBin op a b W
  rw [h] at this
  exact this

set_option maxHeartbeats 2000000 in
theorem lawLive (w : World) : Calls Try.prog 11 #[] w fun r w' => r = .returned (.bool true) ∧ w = w' := by
  have H1 := Lib.hid (binC (show binI 6 (-7) 2 = (-3, 0) by decide +kernel))
  have H2 := Lib.hid (binC (show binI 7 (-7) 2 = (-1, 0) by decide +kernel))
  have H3 := Lib.hid (binC (show binI 6 1 0 = (0, 15) by decide +kernel))
  go_enter Try.func11, Try.ntmps11
  go_wp2_with fail
  refine (H1.out _).mono ?_
  rintro r w1 ⟨rfl, rfl⟩
  go_wp2_with fail
  refine (H2.out _).mono ?_
  rintro r w1 ⟨rfl, rfl⟩
  go_wp2_with fail
  refine (H3.out _).mono ?_
  rintro r w1 ⟨rfl, rfl⟩
  go_wp2_with fail
  refine (lawNum _ _).mono ?_
  rintro r w1 ⟨rfl, rfl⟩
  go_wp2_with fail
  refine (lawNum _ _).mono ?_
  rintro r w1 ⟨rfl, rfl⟩
  go_wp2_with fail
  refine (lawNum _ _).mono ?_
  rintro r w1 ⟨rfl, rfl⟩
  go_wp2_with fail
  go_ret
  exact ⟨rfl, rfl⟩

set_option maxHeartbeats 2000000 in
theorem walkDoes (op a b : Int) (w : World) (ha : In64 a) (hb : In64 b) :
    Calls Try.prog 3 #[.int .i64 op, .int .i64 a, .int .i64 b] w fun r w' => r = .returned (.bool true) ∧ Below w.heap.size w w' := by
  have HB := Lib.hid (Below.refl w.heap.size w)
  have H1 := Lib.hid fun W => arUn op a W
  have H2 := Lib.hid fun W => refUn op a W
  have H3 := Lib.hid fun W => arBin op a b W
  have H4 := Lib.hid fun W => refBin op a b ha hb W
  clear ha hb
  generalize (unI op a).1 = x at *
  generalize (unI op a).2 = e at *
  generalize (binI op a b).1 = y at *
  generalize (binI op a b).2 = f at *
  go_enter Try.func3, Try.ntmps3
  go_wp2_with fail
  refine (H1.out _).mono ?_
  rintro r w1 ⟨rfl, rfl⟩
  go_wp2_with fail
  refine (H2.out _).mono ?_
  rintro r w1 ⟨rfl, rfl⟩
  go_wp2_with fail
  refine (H3.out _).mono ?_
  rintro r w1 ⟨rfl, rfl⟩
  go_wp2_with fail
  refine (H4.out _).mono ?_
  rintro r w1 ⟨rfl, rfl⟩
  go_wp2_with fail
  refine (lawNum _ _).mono ?_
  rintro r w1 ⟨rfl, rfl⟩
  go_wp2_with fail
  refine (lawNum _ _).mono ?_
  rintro r w1 ⟨rfl, rfl⟩
  go_wp2_with fail
  refine (lawLive _).mono ?_
  rintro r w1 ⟨rfl, rfl⟩
  go_wp2_with fail
  go_ret
  exact ⟨rfl, HB.out⟩

/-- What does not change with the sides. -/
theorem bin_turn {op : Int} (a b : Int) (h : op = 3 ∨ op = 5 ∨ op = 8 ∨ op = 9 ∨ op = 10 ∨ op = 11 ∨ op = 12) : binI op b a = ((binI op a b).1, 0) ∧ binI op a b = ((binI op a b).1, 0) := by
  rcases h with rfl | rfl | rfl | rfl | rfl | rfl | rfl
  · exact ⟨by simp [binI, Int.add_comm], by simp [binI]⟩
  · exact ⟨by simp [binI, Int.mul_comm], by simp [binI]⟩
  · refine ⟨?_, by simp [binI]⟩
    simp [binI, joinI, Bool.and_comm]
  · refine ⟨?_, by simp [binI]⟩
    simp [binI, joinI, Bool.or_comm]
  · refine ⟨?_, by simp [binI]⟩
    simp only [binI, joinI]
    cases decide (a = 0) <;> cases decide (b = 0) <;> simp
  · refine ⟨?_, by simp [binI]⟩
    simp [binI, holdsI, eq_comm]
  · refine ⟨?_, by simp [binI]⟩
    simp [binI, holdsI, eq_comm]

set_option maxRecDepth 100000 in
set_option maxHeartbeats 4000000 in
theorem walkTurns (a b : Int) (w : World) (ha : In64 a) (hb : In64 b) :
    Calls Try.prog 5 #[.int .i64 a, .int .i64 b] w fun r w' => r = .returned (.bool true) ∧ Below w.heap.size w w' := by
  have HT := Lib.hid fun op h => And.intro (binC (bin_turn (op := op) a b h).2) (binC (bin_turn (op := op) a b h).1)
  have HD := Lib.hid (binC (show binI 4 a b = (wrap64 (a - b), 0) by simp [binI]))
  have HS := Lib.hid (binC (show binI 3 (wrap64 (a - b)) b = (a, 0) by simp [binI, back_sub b ha]))
  have HN := Lib.hid (show ∀ W : World, Calls Try.prog 6 #[.int .i64 1, .int .i64 b] W fun r w' => r = .returned (.tuple #[.int .i64 (wrap64 (-b)), .int .i64 0]) ∧ W = w' from fun W => arUn 1 b W)
  have HE := Lib.hid (binC (show binI 3 a (wrap64 (-b)) = (wrap64 (a - b), 0) by simp [binI, sub_neg]))
  have HQ := Lib.hid fun h0 : ¬ b = 0 => And.intro (binC (show binI 6 a b = (wrap64 (a.tdiv b), 0) by simp [binI, h0])) (And.intro (binC (show binI 7 a b = (a.tmod b, 0) by simp [binI, h0]))
    (And.intro (binC (show binI 5 (wrap64 (a.tdiv b)) b = (wrap64 (wrap64 (a.tdiv b) * b), 0) by simp [binI])) (binC (show binI 3 (wrap64 (wrap64 (a.tdiv b) * b)) (a.tmod b) = (a, 0) by simp [binI, back_quo ha]))))
  have HZ := Lib.hid (And.intro (binC (show binI 6 a 0 = (0, 15) by simp [binI])) (binC (show binI 7 a 0 = (0, 15) by simp [binI])))
  clear ha hb
  generalize wrap64 (wrap64 (a.tdiv b) * b) = P at *
  generalize wrap64 (a.tdiv b) = Q at *
  generalize a.tmod b = M at *
  generalize wrap64 (a - b) = D at *
  generalize wrap64 (-b) = N at *
  go_enter Try.func5, Try.ntmps5
  go_wp2_with fail
  go_loop [29] (fun i => ∃ k : Nat, k ≤ 7 ∧ i = .int .i64 k) (fun i => 7 - (intOf i).toNat)
  case atStart => exact ⟨0, by omega, rfl⟩
  case round =>
    obtain ⟨k, hk, rfl⟩ := hrel
    obtain rfl | rfl | rfl | rfl | rfl | rfl | rfl | rfl : k = 7 ∨ k = 0 ∨ k = 1 ∨ k = 2 ∨ k = 3 ∨ k = 4 ∨ k = 5 ∨ k = 6 := by omega
    · have HB := Lib.hid ((Below.refl w.heap.size w).alloc (Nat.le_refl _) (.cells #[.int .i64 3, .int .i64 5, .int .i64 8, .int .i64 9, .int .i64 10, .int .i64 11, .int .i64 12] 3))
      by_cases h0 : b = 0
      · subst h0
        have HZ' := HZ.out
        obtain ⟨z1, z2⟩ := HZ'
        have Z1 := Lib.hid z1
        have Z2 := Lib.hid z2
        clear z1 z2 HQ HT
        go_wp2_with fail
        refine (HD.out _).mono ?_
        rintro r w1 ⟨rfl, rfl⟩
        go_wp2_with fail
        refine (HS.out _).mono ?_
        rintro r w1 ⟨rfl, rfl⟩
        go_wp2_with fail
        refine (HN.out _).mono ?_
        rintro r w1 ⟨rfl, rfl⟩
        go_wp2_with fail
        refine (HE.out _).mono ?_
        rintro r w1 ⟨rfl, rfl⟩
        go_wp2_with fail
        refine (Z1.out _).mono ?_
        rintro r w1 ⟨rfl, rfl⟩
        go_wp2_with fail
        refine (Z2.out _).mono ?_
        rintro r w1 ⟨rfl, rfl⟩
        go_wp2_with fail
        refine (lawNum _ _).mono ?_
        rintro r w1 ⟨rfl, rfl⟩
        go_wp2_with fail
        refine (lawNum _ _).mono ?_
        rintro r w1 ⟨rfl, rfl⟩
        go_wp2_with fail
        refine (lawLive _).mono ?_
        rintro r w1 ⟨rfl, rfl⟩
        go_wp2_with fail
        go_ret
        exact ⟨rfl, HB.out⟩
      · obtain ⟨q1, q2, q3, q4⟩ := HQ.out h0
        have Q1 := Lib.hid q1
        have Q2 := Lib.hid q2
        have Q3 := Lib.hid q3
        have Q4 := Lib.hid q4
        have b0 : (b == 0) = false := by simpa using h0
        clear q1 q2 q3 q4 HZ HQ HT
        go_wp2_with fail
        refine (HD.out _).mono ?_
        rintro r w1 ⟨rfl, rfl⟩
        go_wp2_with fail
        refine (HS.out _).mono ?_
        rintro r w1 ⟨rfl, rfl⟩
        go_wp2_with fail
        refine (HN.out _).mono ?_
        rintro r w1 ⟨rfl, rfl⟩
        go_wp2_with fail
        refine (HE.out _).mono ?_
        rintro r w1 ⟨rfl, rfl⟩
        go_wp2_with fail
        refine (Q1.out _).mono ?_
        rintro r w1 ⟨rfl, rfl⟩
        go_wp2_with fail
        refine (Q2.out _).mono ?_
        rintro r w1 ⟨rfl, rfl⟩
        go_wp2_with fail
        refine (Q3.out _).mono ?_
        rintro r w1 ⟨rfl, rfl⟩
        go_wp2_with fail
        refine (Q4.out _).mono ?_
        rintro r w1 ⟨rfl, rfl⟩
        go_wp2_with fail
        refine (lawLive _).mono ?_
        rintro r w1 ⟨rfl, rfl⟩
        go_wp2_with fail
        go_ret
        exact ⟨rfl, HB.out⟩
    all_goals
      go_wp2_with fail
      refine ((HT.out _ (by omega)).1 _).mono ?_
      rintro r w1 ⟨rfl, rfl⟩
      go_wp2_with fail
      refine ((HT.out _ (by omega)).2 _).mono ?_
      rintro r w1 ⟨rfl, rfl⟩
      go_wp2_with fail
      refine (lawNum _ _).mono ?_
      rintro r w1 ⟨rfl, rfl⟩
      go_wp2_with fail
      refine (lawNum _ _).mono ?_
      rintro r w1 ⟨rfl, rfl⟩
      go_wp2_with fail
      go_round
      case rel => first | exact ⟨1, by omega, rfl⟩ | exact ⟨2, by omega, rfl⟩ | exact ⟨3, by omega, rfl⟩ | exact ⟨4, by omega, rfl⟩ | exact ⟨5, by omega, rfl⟩ | exact ⟨6, by omega, rfl⟩ | exact ⟨7, by omega, rfl⟩
      case measure => simp [intOf]
end Go.Proofs.Ytcfgoekgopnfkaa
