/- What the operators of two numbers return, of both texts. Conditions: none. -/
import Derived.Test.YtcfgoekgopnfkaaArA
namespace Go.Proofs.Ytcfgoekgopnfkaa
open Go.RowKit
set_option linter.unusedVariables false

theorem op_cases (op : Int) : op = 3 ∨ op = 4 ∨ op = 5 ∨ (op = 6 ∨ op = 7) ∨ (op = 8 ∨ op = 9 ∨ op = 10) ∨ (op = 11 ∨ op = 12 ∨ op = 13 ∨ op = 14 ∨ op = 15 ∨ op = 16) ∨ (op < 3 ∨ 16 < op) := by omega
theorem bin_no {op a b : Int} (h : op < 3 ∨ 16 < op) : binI op a b = (0, 1) := by
  unfold binI
  repeat rw [if_neg (by omega)]
theorem op_no {op : Int} (h : op < 3 ∨ 16 < op) (k : Int) (hk : 3 ≤ k ∧ k ≤ 16) : (op == k) = false := by
  rw [beq_eq_false_iff_ne]
  omega

set_option maxHeartbeats 2000000 in
theorem arBin (op a b : Int) (w : World) :
    Calls Try.prog 8 #[.int .i64 op, .int .i64 a, .int .i64 b] w fun r w' => r = .returned (.tuple #[.int .i64 (binI op a b).1, .int .i64 (binI op a b).2]) ∧ w = w' := by
  rcases op_cases op with rfl | rfl | rfl | hop | hop | hop | hop
  · go_enter Try.func8, Try.ntmps8
    go_wp2_with fail
    go_ret2
    exact ⟨rfl, rfl⟩
  · have HN := Lib.hid (sub_neg a b)
    go_enter Try.func8, Try.ntmps8
    go_wp2_with fail
    go_ret2
    exact ⟨ret_two HN.out rfl, rfl⟩
  · go_enter Try.func8, Try.ntmps8
    go_wp2_with fail
    go_ret2
    exact ⟨rfl, rfl⟩
  · have HO := Lib.hid hop
    have HD := Lib.hid fun W => arDivide op a b hop W
    rcases hop with rfl | rfl
    all_goals
      generalize hx : (binI _ a b).1 = x at HD ⊢
      generalize hy : (binI _ a b).2 = y at HD ⊢
      go_enter Try.func8, Try.ntmps8
      go_wp2_with fail
      refine (HD.out _).mono ?_
      rintro r w1 ⟨rfl, rfl⟩
      go_wp2_with fail
      go_ret2
      exact ⟨rfl, rfl⟩
  · have HJ := Lib.hid fun W => arJoin op (a != 0) (b != 0) hop W
    have e : binI op a b = (trI (joinI op (a != 0) (b != 0)), 0) := by
      rcases hop with rfl | rfl | rfl <;> simp [binI, bne, Bool.beq_eq_decide_eq]
    rw [e]
    clear e
    generalize joinI op (a != 0) (b != 0) = j at HJ ⊢
    rcases hop with rfl | rfl | rfl
    all_goals
      go_enter Try.func8, Try.ntmps8
      go_wp2_with fail
      refine (arTruth _ _).mono ?_
      rintro r w1 ⟨rfl, rfl⟩
      go_wp2_with fail
      refine (arTruth _ _).mono ?_
      rintro r w1 ⟨rfl, rfl⟩
      go_wp2_with fail
      refine (HJ.out _).mono ?_
      rintro r w1 ⟨rfl, rfl⟩
      go_wp2_with fail
      go_ret2
      exact ⟨rfl, rfl⟩
  · have HJ := Lib.hid fun W => arHolds op a b (by omega) W
    have e : binI op a b = (trI (holdsI op a b), 0) := by
      rcases hop with rfl | rfl | rfl | rfl | rfl | rfl <;> simp [binI]
    rw [e]
    clear e
    generalize holdsI op a b = j at HJ ⊢
    rcases hop with rfl | rfl | rfl | rfl | rfl | rfl
    all_goals
      go_enter Try.func8, Try.ntmps8
      go_wp2_with fail
      refine (HJ.out _).mono ?_
      rintro r w1 ⟨rfl, rfl⟩
      go_wp2_with fail
      refine (arTruth _ _).mono ?_
      rintro r w1 ⟨rfl, rfl⟩
      go_wp2_with fail
      go_ret2
      exact ⟨rfl, rfl⟩
  · rw [bin_no hop]
    have b3 := op_no hop 3 (by omega)
    have b4 := op_no hop 4 (by omega)
    have b5 := op_no hop 5 (by omega)
    have b6 := op_no hop 6 (by omega)
    have b7 := op_no hop 7 (by omega)
    have b8 := op_no hop 8 (by omega)
    have b9 := op_no hop 9 (by omega)
    have b10 := op_no hop 10 (by omega)
    have b11 := op_no hop 11 (by omega)
    have b12 := op_no hop 12 (by omega)
    have b13 := op_no hop 13 (by omega)
    have b14 := op_no hop 14 (by omega)
    have b15 := op_no hop 15 (by omega)
    have b16 := op_no hop 16 (by omega)
    clear hop
    go_enter Try.func8, Try.ntmps8
    go_wp2_with fail
    go_ret2
    exact ⟨rfl, rfl⟩

set_option maxHeartbeats 1000000 in
theorem refSize (a : Int) (ha : In64 a) (w : World) :
    Calls Try.prog 28 #[.int .i64 a] w fun r w' => r = .returned (.int .u64 (sizeI a)) ∧ w = w' := by
  have HA := Lib.hid ha
  clear ha
  by_cases h : a < 0
  · have HS := Lib.hid (size_ref HA.out h)
    go_enter Try.func28, Try.ntmps28
    go_wp2_with fail
    go_ret
    exact ⟨ret_int (by simp only [u64_left]; exact HS.out), rfl⟩
  · have HS := Lib.hid (size_ref' HA.out h)
    go_enter Try.func28, Try.ntmps28
    go_wp2_with fail
    go_ret
    exact ⟨ret_int (by simp only [u64_left]; exact HS.out), rfl⟩

theorem quo_fit {a b q : Int} (ha : In64 a) (hb : In64 b) (h0 : ¬ b = 0) (hq : q = (sizeI a).tdiv (sizeI b)) : q = sizeI a / sizeI b ∧ 0 ≤ q ∧ q ≤ 9223372036854775808 := by
  have h1 : 0 ≤ sizeI a ∧ sizeI a ≤ 9223372036854775808 := by unfold In64 at ha; unfold sizeI; split <;> omega
  have h2 : 1 ≤ sizeI b := by unfold sizeI; split <;> omega
  rw [Int.tdiv_eq_ediv_of_nonneg h1.1] at hq
  subst hq
  refine ⟨rfl, Int.ediv_nonneg h1.1 (by omega), ?_⟩
  exact Int.le_trans (Int.ediv_le_self _ h1.1) h1.2

set_option maxHeartbeats 1000000 in
theorem refQuo (a b : Int) (ha : In64 a) (hb : In64 b) (h0 : ¬ b = 0) (w : World) :
    Calls Try.prog 27 #[.int .i64 a, .int .i64 b] w fun r w' => r = .returned (.int .i64 (wrap64 (a.tdiv b))) ∧ w = w' := by
  have HSa := Lib.hid fun W => refSize a ha W
  have HSb := Lib.hid fun W => refSize b hb W
  obtain ⟨hq, hq0, hq1⟩ := quo_fit ha hb h0 rfl
  have hs : 1 ≤ sizeI b := by unfold sizeI; split <;> omega
  have hs' : 0 ≤ sizeI a ∧ sizeI a ≤ 18446744073709551615 := by unfold In64 at ha; unfold sizeI; split <;> omega
  have HQ := Lib.hid (quoI_eq a b)
  unfold quoI at HQ
  rw [← hq] at HQ
  have hb2 : (sizeI b == 0) = false := by rw [beq_eq_false_iff_ne]; omega
  have hne : ¬ sizeI b = 0 := by omega
  rw [hq] at hq0 hq1 HQ
  clear hq ha hb
  generalize sizeI a = x at *
  generalize sizeI b = y at *
  cases da : decide (a < 0) <;> cases db : decide (b < 0)
  all_goals
    rw [da, db] at HQ
    go_enter Try.func27, Try.ntmps27
    go_wp2_with fail
    refine (HSa.out _).mono ?_
    rintro r w1 ⟨rfl, rfl⟩
    go_wp2_with fail
    refine (HSb.out _).mono ?_
    rintro r w1 ⟨rfl, rfl⟩
    go_wp2_with fail
    go_ret
    refine ⟨ret_int ?_, rfl⟩
    have h := HQ.out
    simp at h
    first
    | exact congrArg wrap64 h
    | exact (w64_same (by simp only [u64_left]; omega)).trans (congrArg wrap64 h)

set_option maxHeartbeats 2000000 in
theorem refNumber (op a b : Int) (ha : In64 a) (hb : In64 b) (hop : op = 3 ∨ op = 4 ∨ op = 5 ∨ op = 6 ∨ op = 7) (w : World) :
    Calls Try.prog 23 #[.int .i64 op, .int .i64 a, .int .i64 b] w fun r w' => r = .returned (.tuple #[.int .i64 (binI op a b).1, .int .i64 (binI op a b).2]) ∧ w = w' := by
  have HQ := Lib.hid fun h0 W => refQuo a b ha hb h0 W
  have HM := Lib.hid fun h0 => mod_ref ha hb h0
  have HA := Lib.hid (add_ref a b)
  have HS := Lib.hid (sub_ref a b)
  have HP := Lib.hid (mul_ref a b)
  clear ha hb
  rcases hop with rfl | rfl | rfl | hop
  · go_enter Try.func23, Try.ntmps23
    go_wp2_with fail
    go_ret2
    exact ⟨ret_two (by simp only [u64_left]; exact HA.out) rfl, rfl⟩
  · go_enter Try.func23, Try.ntmps23
    go_wp2_with fail
    go_ret2
    exact ⟨ret_two (by simp only [u64_left]; exact HS.out) rfl, rfl⟩
  · go_enter Try.func23, Try.ntmps23
    go_wp2_with fail
    go_ret2
    exact ⟨ret_two (by simp only [u64_left]; exact HP.out) rfl, rfl⟩
  · by_cases hb : b = 0
    · subst hb
      rcases hop with rfl | rfl
      all_goals
        go_enter Try.func23, Try.ntmps23
        go_wp2_with fail
        go_ret2
        exact ⟨rfl, rfl⟩
    · have hb' : (b == 0) = false := by simpa using hb
      have e6 : binI 6 a b = (wrap64 (a.tdiv b), 0) := by simp [binI, hb]
      have e7 : binI 7 a b = (a.tmod b, 0) := by simp [binI, hb]
      have HQ' := Lib.hid (HQ.out hb)
      have HM' := Lib.hid (HM.out hb)
      clear HQ HM HA HS HP
      generalize wrap64 (a.tdiv b) = q at *
      rcases hop with rfl | rfl
      · rw [e6]
        clear e6 e7
        go_enter Try.func23, Try.ntmps23
        go_wp2_with fail
        refine (HQ'.out _).mono ?_
        rintro r w1 ⟨rfl, rfl⟩
        go_wp2_with fail
        go_ret2
        exact ⟨rfl, rfl⟩
      · rw [e7]
        clear e6 e7
        go_enter Try.func23, Try.ntmps23
        go_wp2_with fail
        refine (HQ'.out _).mono ?_
        rintro r w1 ⟨rfl, rfl⟩
        go_wp2_with fail
        go_ret2
        exact ⟨ret_two (by simp only [u64_left]; exact HM'.out) rfl, rfl⟩

set_option maxHeartbeats 4000000 in
theorem refBin (op a b : Int) (ha : In64 a) (hb : In64 b) (w : World) :
    Calls Try.prog 9 #[.int .i64 op, .int .i64 a, .int .i64 b] w fun r w' => r = .returned (.tuple #[.int .i64 (binI op a b).1, .int .i64 (binI op a b).2]) ∧ w = w' := by
  have HN := Lib.hid fun h W => refNumber op a b ha hb h W
  clear ha hb
  by_cases hn : op = 3 ∨ op = 4 ∨ op = 5 ∨ op = 6 ∨ op = 7
  · have HD := Lib.hid fun W => HN.out hn W
    clear HN
    generalize hx : (binI op a b).1 = x at HD ⊢
    generalize hy : (binI op a b).2 = y at HD ⊢
    clear hx hy
    rcases hn with rfl | rfl | rfl | rfl | rfl
    all_goals
      go_enter Try.func9, Try.ntmps9
      go_wp2_with fail
      refine (HD.out _).mono ?_
      rintro r w1 ⟨rfl, rfl⟩
      go_wp2_with fail
      go_ret2
      exact ⟨rfl, rfl⟩
  · clear HN
    by_cases hc : 8 ≤ op ∧ op ≤ 16
    · have e : binI op a b = (trI (if op ≤ 10 then joinI op (a != 0) (b != 0) else holdsI op a b), 0) := by
        obtain rfl | rfl | rfl | rfl | rfl | rfl | rfl | rfl | rfl : op = 8 ∨ op = 9 ∨ op = 10 ∨ op = 11 ∨ op = 12 ∨ op = 13 ∨ op = 14 ∨ op = 15 ∨ op = 16 := by omega
        all_goals simp [binI, bne, Bool.beq_eq_decide_eq]
      rw [e]
      clear e
      obtain rfl | rfl | rfl | rfl | rfl | rfl | rfl | rfl | rfl : op = 8 ∨ op = 9 ∨ op = 10 ∨ op = 11 ∨ op = 12 ∨ op = 13 ∨ op = 14 ∨ op = 15 ∨ op = 16 := by omega
      all_goals
        clear hn hc
        by_cases za : a = 0
        all_goals
          have zb : (a != 0) = !decide (a = 0) := by simp [bne, Bool.beq_eq_decide_eq]
          first | rw [decide_eq_true za] at zb | rw [decide_eq_false za] at zb
          go_enter Try.func9, Try.ntmps9
          go_wp2_with fail
          refine (refTruth _ _).mono ?_
          rintro r w1 ⟨rfl, rfl⟩
          go_wp2_with fail
          go_ret2
          exact ⟨ret_two (by first | simp [joinI, holdsI, bne, Bool.beq_eq_decide_eq] | simp [joinI, holdsI, za, bne, Bool.beq_eq_decide_eq]) rfl, rfl⟩
    · have hop : op < 3 ∨ 16 < op := by omega
      rw [bin_no hop]
      have b3 := op_no hop 3 (by omega)
      have b4 := op_no hop 4 (by omega)
      have b5 := op_no hop 5 (by omega)
      have b6 := op_no hop 6 (by omega)
      have b7 := op_no hop 7 (by omega)
      have b8 := op_no hop 8 (by omega)
      have b9 := op_no hop 9 (by omega)
      have b10 := op_no hop 10 (by omega)
      have b11 := op_no hop 11 (by omega)
      have b12 := op_no hop 12 (by omega)
      have b13 := op_no hop 13 (by omega)
      have b14 := op_no hop 14 (by omega)
      have b15 := op_no hop 15 (by omega)
      have b16 := op_no hop 16 (by omega)
      clear hop hn hc
      go_enter Try.func9, Try.ntmps9
      go_wp2_with fail
      go_ret2
      exact ⟨rfl, rfl⟩
end Go.Proofs.Ytcfgoekgopnfkaa
