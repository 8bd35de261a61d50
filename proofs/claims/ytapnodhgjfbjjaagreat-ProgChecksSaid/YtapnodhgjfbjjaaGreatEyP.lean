/- What a row tells of a part is what its kind asks: plain functions. Conditions: none. -/
import Derived.Test.YtapnodhgjfbjjaaGreatEyU
namespace Go.Proofs.YtapnodhgjfbjjaaGreat
open Go.RowKit Go.Sort
set_option linter.unusedVariables false
set_option linter.unusedSimpArgs false

/-- A named part, as a tree. -/
def namX (k n : Int) (s : ByteArray) (op : Int) (arms : List ByteArray) : Ex := .mk k n s op arms []
/-- What a row tells of a part. -/
def rowB (x : Ex) (n : Int) (s : ByteArray) (op : Int) (arms : List ByteArray) (h : Bool) (lo hi : Int) : Bool :=
  h && fieldsB x (namX x.k n s op arms) && decide (lo ≤ (x.subs.length : Int)) && decide ((x.subs.length : Int) ≤ hi)

theorem sameT_nil (l : List ByteArray) : sameT l [] = (l.length == 0) := by
  cases l <;> simp [sameT]
theorem sameT_self (l : List ByteArray) : sameT l l = true := by simp [sameT]
theorem all_len0 (l : List ByteArray) : (l.all armB && (l.length == 0)) = (l.length == 0) := by
  cases l <;> simp
theorem toList_none : (ByteArray.empty).toList = [] := by
  rw [Lib.toList_data]
  rfl
theorem onceS_one {l : List ByteArray} (h : l.length = 1) : onceS l = true := by
  match l, h with
  | [a], _ => simp [onceS, onceB]

theorem rowB_eq (x : Ex) (n : Int) (s : ByteArray) (op : Int) (arms : List ByteArray) (h : Bool) (lo hi : Int) :
    rowB x n s op arms h lo hi = (h && ((x.n == n) && (x.s.toList == s.toList) && (x.op == op) && sameT x.arms arms) && decide (lo ≤ (x.subs.length : Int)) && decide ((x.subs.length : Int) ≤ hi)) := by
  simp [rowB, fieldsB, namX, Ex.k, Ex.n, Ex.s, Ex.op, Ex.arms, Bool.and_assoc]
theorem all_none {l : List ByteArray} (h : l.length = 0) : l.all armB = true := by
  cases l <;> simp at h ⊢

theorem row_1 (x : Ex) (hk : x.k = 1) : rowB x x.n ByteArray.empty 0 [] (decide (0 ≤ x.n)) 0 0 = partX x := by
  have h0 := @all_none x.arms
  have h1 := @onceS_one x.arms
  rw [rowB_eq]
  simp only [partX, numbersX, namedX, armsX, subsX, hk, sameT_nil, sameT_self, toList_none, bitB, armsB]
  generalize x.arms.all armB = ba at *
  generalize (x.s.toList == ([] : List UInt8)) = be at *
  generalize x.arms.length = la at *
  generalize x.subs.length = ls at *
  generalize x.n = n at *
  generalize x.op = op at *
  cases ba <;> cases be
  all_goals (try simp at h0)
  all_goals (try simp at h1)
  all_goals (try rw [Bool.eq_iff_iff])
  all_goals (try simp)
  all_goals (try omega)
theorem row_2 (x : Ex) (hk : x.k = 2) : rowB x x.n ByteArray.empty 0 [] (bitB x.n) 0 0 = partX x := by
  have h0 := @all_none x.arms
  have h1 := @onceS_one x.arms
  rw [rowB_eq]
  simp only [partX, numbersX, namedX, armsX, subsX, hk, sameT_nil, sameT_self, toList_none, bitB, armsB]
  generalize x.arms.all armB = ba at *
  generalize (x.s.toList == ([] : List UInt8)) = be at *
  generalize x.arms.length = la at *
  generalize x.subs.length = ls at *
  generalize x.n = n at *
  generalize x.op = op at *
  cases ba <;> cases be
  all_goals (try simp at h0)
  all_goals (try simp at h1)
  all_goals (try rw [Bool.eq_iff_iff])
  all_goals (try simp)
  all_goals (try omega)
theorem row_3 (x : Ex) (hk : x.k = 3) : rowB x 0 x.s 0 [] (lowB x.s.data.toList) 0 0 = partX x := by
  have h0 := @all_none x.arms
  have h1 := @onceS_one x.arms
  rw [rowB_eq]
  simp only [partX, numbersX, namedX, armsX, subsX, hk, sameT_nil, sameT_self, toList_none, bitB, armsB]
  generalize x.arms.all armB = ba at *
  generalize lowB x.s.data.toList = b1 at *
  generalize x.arms.length = la at *
  generalize x.subs.length = ls at *
  generalize x.n = n at *
  generalize x.op = op at *
  cases ba <;> cases b1
  all_goals (try simp at h0)
  all_goals (try simp at h1)
  all_goals (try rw [Bool.eq_iff_iff])
  all_goals (try simp)
  all_goals (try omega)
theorem row_4 (x : Ex) (hk : x.k = 4) : rowB x 0 x.s 0 [] (highB x.s.data.toList) 0 0 = partX x := by
  have h0 := @all_none x.arms
  have h1 := @onceS_one x.arms
  rw [rowB_eq]
  simp only [partX, numbersX, namedX, armsX, subsX, hk, sameT_nil, sameT_self, toList_none, bitB, armsB]
  generalize x.arms.all armB = ba at *
  generalize highB x.s.data.toList = b2 at *
  generalize x.arms.length = la at *
  generalize x.subs.length = ls at *
  generalize x.n = n at *
  generalize x.op = op at *
  cases ba <;> cases b2
  all_goals (try simp at h0)
  all_goals (try simp at h1)
  all_goals (try rw [Bool.eq_iff_iff])
  all_goals (try simp)
  all_goals (try omega)
theorem row_17 (x : Ex) (hk : x.k = 17) : rowB x 0 x.s 0 [] (pathB x.s.data.toList) 0 0 = partX x := by
  have h0 := @all_none x.arms
  have h1 := @onceS_one x.arms
  rw [rowB_eq]
  simp only [partX, numbersX, namedX, armsX, subsX, hk, sameT_nil, sameT_self, toList_none, bitB, armsB]
  generalize x.arms.all armB = ba at *
  generalize pathB x.s.data.toList = b3 at *
  generalize x.arms.length = la at *
  generalize x.subs.length = ls at *
  generalize x.n = n at *
  generalize x.op = op at *
  cases ba <;> cases b3
  all_goals (try simp at h0)
  all_goals (try simp at h1)
  all_goals (try rw [Bool.eq_iff_iff])
  all_goals (try simp)
  all_goals (try omega)
theorem row_5 (x : Ex) (hk : x.k = 5) : rowB x 0 ByteArray.empty x.op [] (decide (1 ≤ x.op) && decide (x.op ≤ 2)) 1 1 = partX x := by
  have h0 := @all_none x.arms
  have h1 := @onceS_one x.arms
  rw [rowB_eq]
  simp only [partX, numbersX, namedX, armsX, subsX, hk, sameT_nil, sameT_self, toList_none, bitB, armsB]
  generalize x.arms.all armB = ba at *
  generalize (x.s.toList == ([] : List UInt8)) = be at *
  generalize x.arms.length = la at *
  generalize x.subs.length = ls at *
  generalize x.n = n at *
  generalize x.op = op at *
  cases ba <;> cases be
  all_goals (try simp at h0)
  all_goals (try simp at h1)
  all_goals (try rw [Bool.eq_iff_iff])
  all_goals (try simp)
  all_goals (try omega)
theorem row_6 (x : Ex) (hk : x.k = 6) : rowB x 0 ByteArray.empty x.op [] (decide (3 ≤ x.op) && decide (x.op ≤ 16)) 2 2 = partX x := by
  have h0 := @all_none x.arms
  have h1 := @onceS_one x.arms
  rw [rowB_eq]
  simp only [partX, numbersX, namedX, armsX, subsX, hk, sameT_nil, sameT_self, toList_none, bitB, armsB]
  generalize x.arms.all armB = ba at *
  generalize (x.s.toList == ([] : List UInt8)) = be at *
  generalize x.arms.length = la at *
  generalize x.subs.length = ls at *
  generalize x.n = n at *
  generalize x.op = op at *
  cases ba <;> cases be
  all_goals (try simp at h0)
  all_goals (try simp at h1)
  all_goals (try rw [Bool.eq_iff_iff])
  all_goals (try simp)
  all_goals (try omega)
theorem row_7 (x : Ex) (hk : x.k = 7) : rowB x 0 ByteArray.empty 0 [] true 3 3 = partX x := by
  have h0 := @all_none x.arms
  have h1 := @onceS_one x.arms
  rw [rowB_eq]
  simp only [partX, numbersX, namedX, armsX, subsX, hk, sameT_nil, sameT_self, toList_none, bitB, armsB]
  generalize x.arms.all armB = ba at *
  generalize (x.s.toList == ([] : List UInt8)) = be at *
  generalize x.arms.length = la at *
  generalize x.subs.length = ls at *
  generalize x.n = n at *
  generalize x.op = op at *
  cases ba <;> cases be
  all_goals (try simp at h0)
  all_goals (try simp at h1)
  all_goals (try rw [Bool.eq_iff_iff])
  all_goals (try simp)
  all_goals (try omega)
theorem row_16 (x : Ex) (hk : x.k = 16) : rowB x 0 ByteArray.empty 0 [] true 3 3 = partX x := by
  have h0 := @all_none x.arms
  have h1 := @onceS_one x.arms
  rw [rowB_eq]
  simp only [partX, numbersX, namedX, armsX, subsX, hk, sameT_nil, sameT_self, toList_none, bitB, armsB]
  generalize x.arms.all armB = ba at *
  generalize (x.s.toList == ([] : List UInt8)) = be at *
  generalize x.arms.length = la at *
  generalize x.subs.length = ls at *
  generalize x.n = n at *
  generalize x.op = op at *
  cases ba <;> cases be
  all_goals (try simp at h0)
  all_goals (try simp at h1)
  all_goals (try rw [Bool.eq_iff_iff])
  all_goals (try simp)
  all_goals (try omega)
theorem row_9 (x : Ex) (hk : x.k = 9) : rowB x 0 ByteArray.empty 0 [] true 2 2 = partX x := by
  have h0 := @all_none x.arms
  have h1 := @onceS_one x.arms
  rw [rowB_eq]
  simp only [partX, numbersX, namedX, armsX, subsX, hk, sameT_nil, sameT_self, toList_none, bitB, armsB]
  generalize x.arms.all armB = ba at *
  generalize (x.s.toList == ([] : List UInt8)) = be at *
  generalize x.arms.length = la at *
  generalize x.subs.length = ls at *
  generalize x.n = n at *
  generalize x.op = op at *
  cases ba <;> cases be
  all_goals (try simp at h0)
  all_goals (try simp at h1)
  all_goals (try rw [Bool.eq_iff_iff])
  all_goals (try simp)
  all_goals (try omega)
theorem row_15 (x : Ex) (hk : x.k = 15) : rowB x 0 ByteArray.empty 0 [] true 2 2 = partX x := by
  have h0 := @all_none x.arms
  have h1 := @onceS_one x.arms
  rw [rowB_eq]
  simp only [partX, numbersX, namedX, armsX, subsX, hk, sameT_nil, sameT_self, toList_none, bitB, armsB]
  generalize x.arms.all armB = ba at *
  generalize (x.s.toList == ([] : List UInt8)) = be at *
  generalize x.arms.length = la at *
  generalize x.subs.length = ls at *
  generalize x.n = n at *
  generalize x.op = op at *
  cases ba <;> cases be
  all_goals (try simp at h0)
  all_goals (try simp at h1)
  all_goals (try rw [Bool.eq_iff_iff])
  all_goals (try simp)
  all_goals (try omega)
theorem row_10 (x : Ex) (hk : x.k = 10) : rowB x 0 ByteArray.empty 0 [] true 1 1 = partX x := by
  have h0 := @all_none x.arms
  have h1 := @onceS_one x.arms
  rw [rowB_eq]
  simp only [partX, numbersX, namedX, armsX, subsX, hk, sameT_nil, sameT_self, toList_none, bitB, armsB]
  generalize x.arms.all armB = ba at *
  generalize (x.s.toList == ([] : List UInt8)) = be at *
  generalize x.arms.length = la at *
  generalize x.subs.length = ls at *
  generalize x.n = n at *
  generalize x.op = op at *
  cases ba <;> cases be
  all_goals (try simp at h0)
  all_goals (try simp at h1)
  all_goals (try rw [Bool.eq_iff_iff])
  all_goals (try simp)
  all_goals (try omega)
theorem row_14 (x : Ex) (hk : x.k = 14) : rowB x 0 ByteArray.empty 0 [] true 1 8 = partX x := by
  have h0 := @all_none x.arms
  have h1 := @onceS_one x.arms
  rw [rowB_eq]
  simp only [partX, numbersX, namedX, armsX, subsX, hk, sameT_nil, sameT_self, toList_none, bitB, armsB]
  generalize x.arms.all armB = ba at *
  generalize (x.s.toList == ([] : List UInt8)) = be at *
  generalize x.arms.length = la at *
  generalize x.subs.length = ls at *
  generalize x.n = n at *
  generalize x.op = op at *
  cases ba <;> cases be
  all_goals (try simp at h0)
  all_goals (try simp at h1)
  all_goals (try rw [Bool.eq_iff_iff])
  all_goals (try simp)
  all_goals (try omega)
theorem row_8 (x : Ex) (hk : x.k = 8) : rowB x 0 ByteArray.empty 0 [] (decide (0 < (x.subs.length : Int)) && constX (subX x 0)) 2 2 = partX x := by
  have h0 := @all_none x.arms
  have h1 := @onceS_one x.arms
  rw [rowB_eq]
  simp only [partX, numbersX, namedX, armsX, subsX, hk, sameT_nil, sameT_self, toList_none, bitB, armsB]
  generalize x.arms.all armB = ba at *
  generalize (x.s.toList == ([] : List UInt8)) = be at *
  generalize constX (subX x 0) = bc at *
  generalize x.arms.length = la at *
  generalize x.subs.length = ls at *
  generalize x.n = n at *
  generalize x.op = op at *
  cases ba <;> cases be <;> cases bc
  all_goals (try simp at h0)
  all_goals (try simp at h1)
  all_goals (try rw [Bool.eq_iff_iff])
  all_goals (try simp)
  all_goals (try omega)
theorem row_11 (x : Ex) (hk : x.k = 11) : rowB x 0 x.s 0 x.arms (lowB x.s.data.toList && armsB x.arms 1) 1 1 = partX x := by
  have h0 := @all_none x.arms
  have h1 := @onceS_one x.arms
  rw [rowB_eq]
  simp only [partX, numbersX, namedX, armsX, subsX, hk, sameT_nil, sameT_self, toList_none, bitB, armsB]
  generalize x.arms.all armB = ba at *
  generalize onceS x.arms = bo at *
  generalize lowB x.s.data.toList = b1 at *
  generalize x.arms.length = la at *
  generalize x.subs.length = ls at *
  generalize x.n = n at *
  generalize x.op = op at *
  cases ba <;> cases bo <;> cases b1
  all_goals (try simp at h0)
  all_goals (try simp at h1)
  all_goals (try rw [Bool.eq_iff_iff])
  all_goals (try simp)
  all_goals (try omega)
theorem row_12 (x : Ex) (hk : x.k = 12) : rowB x 0 x.s 0 x.arms (lowB x.s.data.toList && armsB x.arms 6) x.arms.length x.arms.length = partX x := by
  have h0 := @all_none x.arms
  have h1 := @onceS_one x.arms
  rw [rowB_eq]
  simp only [partX, numbersX, namedX, armsX, subsX, hk, sameT_nil, sameT_self, toList_none, bitB, armsB]
  generalize x.arms.all armB = ba at *
  generalize onceS x.arms = bo at *
  generalize lowB x.s.data.toList = b1 at *
  generalize x.arms.length = la at *
  generalize x.subs.length = ls at *
  generalize x.n = n at *
  generalize x.op = op at *
  cases ba <;> cases bo <;> cases b1
  all_goals (try simp at h0)
  all_goals (try simp at h1)
  all_goals (try rw [Bool.eq_iff_iff])
  all_goals (try simp)
  all_goals (try omega)
theorem row_13 (x : Ex) (hi : Int) (hk : x.k = 13) (hh : bitB x.n = true → hi = 6 + x.n) : rowB x x.n x.s 0 [] (lowB x.s.data.toList && bitB x.n) x.n hi = partX x := by
  have h0 := @all_none x.arms
  have h1 := @onceS_one x.arms
  unfold bitB at hh
  simp only [Bool.or_eq_true, beq_iff_eq] at hh
  rw [rowB_eq]
  simp only [partX, numbersX, namedX, armsX, subsX, hk, sameT_nil, sameT_self, toList_none, bitB, armsB]
  generalize x.arms.all armB = ba at *
  generalize lowB x.s.data.toList = b1 at *
  generalize x.arms.length = la at *
  generalize x.subs.length = ls at *
  generalize x.n = n at *
  generalize x.op = op at *
  cases ba <;> cases b1
  all_goals (try simp at h0)
  all_goals (try simp at h1)
  all_goals (try rw [Bool.eq_iff_iff])
  all_goals (try simp)
  all_goals (try omega)
theorem row_no (x : Ex) (n : Int) (s : ByteArray) (op : Int) (arms : List ByteArray) (lo hi : Int) (hk : x.k < 1 ∨ 17 < x.k) : rowB x n s op arms false lo hi = partX x := by
  rw [rowB_eq]
  have : (decide (1 ≤ x.k) && decide (x.k ≤ 17)) = false := by
    rcases hk with h | h
    · rw [decide_eq_false (by omega), Bool.false_and]
    · rw [decide_eq_false (p := x.k ≤ 17) (by omega), Bool.and_false]
  simp only [partX, this, Bool.false_and]
end Go.Proofs.YtapnodhgjfbjjaaGreat
