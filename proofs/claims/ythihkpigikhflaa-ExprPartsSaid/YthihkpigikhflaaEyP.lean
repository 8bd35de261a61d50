/- What a row tells of a part is what its kind asks: plain functions. Conditions: none. -/
import Derived.Test.YthihkpigikhflaaEyD
namespace Go.Proofs.Ythihkpigikhflaa
open Go.RowKit Go.Sort
set_option linter.unusedVariables false
set_option linter.unusedSimpArgs false

/-- A named part, as a tree. -/
def namX (k n : Int) (s : ByteArray) (op : Int) (arms : List ByteArray) : Ex := .mk k n s op arms []
/-- What a row tells of a part. -/
def rowB (x : Ex) (n : Int) (s : ByteArray) (op : Int) (arms : List ByteArray) (h : Bool) (lo hi : Int) : Bool :=
  h && fieldsB x (namX x.k n s op arms) && decide (lo ≤ (x.subs.length : Int)) && decide ((x.subs.length : Int) ≤ hi)

theorem sameT_nil (l : List ByteArray) : sameT l [] = (l.length == 0) := by
  cases l <;> simp [sameT]
theorem sameT_self (l : List ByteArray) : sameT l l = true := by simp [sameT]
theorem all_len0 (l : List ByteArray) : (l.all armB && (l.length == 0)) = (l.length == 0) := by
  cases l <;> simp
theorem toList_none : (ByteArray.empty).toList = [] := by
  rw [Lib.toList_data]
  rfl
theorem onceS_one {l : List ByteArray} (h : l.length = 1) : onceS l = true := by
  match l, h with
  | [a], _ => simp [onceS, onceB]

theorem rowB_eq (x : Ex) (n : Int) (s : ByteArray) (op : Int) (arms : List ByteArray) (h : Bool) (lo hi : Int) :
    rowB x n s op arms h lo hi = (h && ((x.n == n) && (x.s.toList == s.toList) && (x.op == op) && sameT x.arms arms) && decide (lo ≤ (x.subs.length : Int)) && decide ((x.subs.length : Int) ≤ hi)) := by
  simp [rowB, fieldsB, namX, Ex.k, Ex.n, Ex.s, Ex.op, Ex.arms, Bool.and_assoc]

theorem row_1 (x : Ex) (hk : x.k = 1) : rowB x x.n ByteArray.empty 0 [] (decide (0 ≤ x.n)) 0 0 = partX x := by
  rw [rowB_eq]
  simp only [partX, numbersX, namedX, armsX, subsX, hk]
  simp [sameT_nil, sameT_self, toList_none, bitB, armsB]
  try grind
theorem row_2 (x : Ex) (hk : x.k = 2) : rowB x x.n ByteArray.empty 0 [] (bitB x.n) 0 0 = partX x := by
  rw [rowB_eq]
  simp only [partX, numbersX, namedX, armsX, subsX, hk]
  simp [sameT_nil, sameT_self, toList_none, bitB, armsB]
  try grind
theorem row_3 (x : Ex) (hk : x.k = 3) : rowB x 0 x.s 0 [] (lowB x.s.data.toList) 0 0 = partX x := by
  rw [rowB_eq]
  simp only [partX, numbersX, namedX, armsX, subsX, hk]
  simp [sameT_nil, sameT_self, toList_none, bitB, armsB]
  try grind
theorem row_4 (x : Ex) (hk : x.k = 4) : rowB x 0 x.s 0 [] (highB x.s.data.toList) 0 0 = partX x := by
  rw [rowB_eq]
  simp only [partX, numbersX, namedX, armsX, subsX, hk]
  simp [sameT_nil, sameT_self, toList_none, bitB, armsB]
  try grind
theorem row_17 (x : Ex) (hk : x.k = 17) : rowB x 0 x.s 0 [] (pathB x.s.data.toList) 0 0 = partX x := by
  rw [rowB_eq]
  simp only [partX, numbersX, namedX, armsX, subsX, hk]
  simp [sameT_nil, sameT_self, toList_none, bitB, armsB]
  try grind
theorem row_5 (x : Ex) (hk : x.k = 5) : rowB x 0 ByteArray.empty x.op [] (decide (1 ≤ x.op) && decide (x.op ≤ 2)) 1 1 = partX x := by
  rw [rowB_eq]
  simp only [partX, numbersX, namedX, armsX, subsX, hk]
  simp [sameT_nil, sameT_self, toList_none, bitB, armsB]
  try grind
theorem row_6 (x : Ex) (hk : x.k = 6) : rowB x 0 ByteArray.empty x.op [] (decide (3 ≤ x.op) && decide (x.op ≤ 16)) 2 2 = partX x := by
  rw [rowB_eq]
  simp only [partX, numbersX, namedX, armsX, subsX, hk]
  simp [sameT_nil, sameT_self, toList_none, bitB, armsB]
  try grind
theorem row_7 (x : Ex) (hk : x.k = 7) : rowB x 0 ByteArray.empty 0 [] true 3 3 = partX x := by
  rw [rowB_eq]
  simp only [partX, numbersX, namedX, armsX, subsX, hk]
  simp [sameT_nil, sameT_self, toList_none, bitB, armsB]
  try grind
theorem row_16 (x : Ex) (hk : x.k = 16) : rowB x 0 ByteArray.empty 0 [] true 3 3 = partX x := by
  rw [rowB_eq]
  simp only [partX, numbersX, namedX, armsX, subsX, hk]
  simp [sameT_nil, sameT_self, toList_none, bitB, armsB]
  try grind
theorem row_9 (x : Ex) (hk : x.k = 9) : rowB x 0 ByteArray.empty 0 [] true 2 2 = partX x := by
  rw [rowB_eq]
  simp only [partX, numbersX, namedX, armsX, subsX, hk]
  simp [sameT_nil, sameT_self, toList_none, bitB, armsB]
  try grind
theorem row_15 (x : Ex) (hk : x.k = 15) : rowB x 0 ByteArray.empty 0 [] true 2 2 = partX x := by
  rw [rowB_eq]
  simp only [partX, numbersX, namedX, armsX, subsX, hk]
  simp [sameT_nil, sameT_self, toList_none, bitB, armsB]
  try grind
theorem row_10 (x : Ex) (hk : x.k = 10) : rowB x 0 ByteArray.empty 0 [] true 1 1 = partX x := by
  rw [rowB_eq]
  simp only [partX, numbersX, namedX, armsX, subsX, hk]
  simp [sameT_nil, sameT_self, toList_none, bitB, armsB]
  try grind
theorem row_14 (x : Ex) (hk : x.k = 14) : rowB x 0 ByteArray.empty 0 [] true 1 8 = partX x := by
  rw [rowB_eq]
  simp only [partX, numbersX, namedX, armsX, subsX, hk]
  simp [sameT_nil, sameT_self, toList_none, bitB, armsB]
  try grind
theorem row_8 (x : Ex) (hk : x.k = 8) : rowB x 0 ByteArray.empty 0 [] (decide (0 < (x.subs.length : Int)) && constX (subX x 0)) 2 2 = partX x := by
  rw [rowB_eq]
  simp only [partX, numbersX, namedX, armsX, subsX, hk]
  simp [sameT_nil, sameT_self, toList_none, bitB, armsB]
  try grind
theorem row_11 (x : Ex) (hk : x.k = 11) : rowB x 0 x.s 0 x.arms (lowB x.s.data.toList && armsB x.arms 1) 1 1 = partX x := by
  have h1 := @onceS_one x.arms
  rw [rowB_eq]
  simp only [partX, numbersX, namedX, armsX, subsX, hk]
  simp [sameT_nil, sameT_self, toList_none, bitB, armsB]
  try grind
theorem row_12 (x : Ex) (hk : x.k = 12) : rowB x 0 x.s 0 x.arms (lowB x.s.data.toList && armsB x.arms 6) x.arms.length x.arms.length = partX x := by
  rw [rowB_eq]
  simp only [partX, numbersX, namedX, armsX, subsX, hk]
  simp [sameT_nil, sameT_self, toList_none, bitB, armsB]
  try grind
theorem row_13 (x : Ex) (hi : Int) (hk : x.k = 13) (hh : bitB x.n = true → hi = 6 + x.n) : rowB x x.n x.s 0 [] (lowB x.s.data.toList && bitB x.n) x.n hi = partX x := by
  rw [rowB_eq]
  simp only [partX, numbersX, namedX, armsX, subsX, hk]
  unfold bitB at hh ⊢
  simp [sameT_nil, sameT_self, toList_none] at hh ⊢
  try grind
theorem row_no (x : Ex) (n : Int) (s : ByteArray) (op : Int) (arms : List ByteArray) (lo hi : Int) (hk : x.k < 1 ∨ 17 < x.k) : rowB x n s op arms false lo hi = partX x := by
  rw [rowB_eq]
  simp only [partX]
  simp
  try grind
end Go.Proofs.Ythihkpigikhflaa
