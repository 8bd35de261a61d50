/- The operators as plain functions of whole numbers. Conditions: none. -/
import Derived.Test.YtcfgoekgopnfkaaBase
namespace Go.Proofs.Ytcfgoekgopnfkaa
open Go.RowKit
set_option linter.unusedVariables false

abbrev In64 (x : Int) : Prop := -9223372036854775808 ≤ x ∧ x ≤ 9223372036854775807

theorem wf_in64 {a : Int} (h : (Lit.int .i64 a).wf = true) : In64 a := by
  have h' : -9223372036854775808 ≤ a ∧ a ≤ 9223372036854775807 := by simpa [Lit.wf, IntKind.min, IntKind.max, IntKind.signed, IntKind.bits] using h
  exact h'

def trI (b : Bool) : Int := if b then 1 else 0
def unI (op a : Int) : Int × Int := if op = 1 then (wrap64 (-a), 0) else if op = 2 then (trI (decide (a = 0)), 0) else (0, 1)

/-- What holds of two numbers. -/
def holdsI (op a b : Int) : Bool :=
  if op = 11 then decide (a = b) else if op = 12 then !decide (a = b) else if op = 13 then decide (a < b)
  else if op = 14 then decide (a ≤ b) else if op = 15 then decide (b < a) else if op = 16 then decide (b ≤ a) else false
def joinI (op : Int) (x y : Bool) : Bool := if op = 8 then x && y else if op = 9 then x || y else x != y

def binI (op a b : Int) : Int × Int :=
  if op = 3 then (wrap64 (a + b), 0) else if op = 4 then (wrap64 (a - b), 0) else if op = 5 then (wrap64 (a * b), 0)
  else if op = 6 then (if b = 0 then (0, 15) else (wrap64 (a.tdiv b), 0))
  else if op = 7 then (if b = 0 then (0, 15) else (a.tmod b, 0))
  else if op = 8 ∨ op = 9 ∨ op = 10 then (trI (joinI op (!decide (a = 0)) (!decide (b = 0))), 0)
  else if 11 ≤ op ∧ op ≤ 16 then (trI (holdsI op a b), 0)
  else (0, 1)

theorem u64_left (n : Int) : IntKind.u64.wrap n = n % 18446744073709551616 := IntKind.wrap_u64 n
theorem w64_same {x y : Int} (h : (x - y) % 18446744073709551616 = 0) : wrap64 x = wrap64 y := by unfold wrap64; omega
theorem w64_id {x : Int} (h : In64 x) : wrap64 x = x := by unfold In64 at h; unfold wrap64; omega
theorem w64_in (x : Int) : In64 (wrap64 x) := by unfold wrap64 In64; omega
theorem w64_mod (x : Int) : (wrap64 x - x) % 18446744073709551616 = 0 := by unfold wrap64; omega

/-- Products of what is the same but for whole turns. -/
theorem mul_turn {x x' y y' : Int} (hx : (x - x') % 18446744073709551616 = 0) (hy : (y - y') % 18446744073709551616 = 0) : (x * y - x' * y') % 18446744073709551616 = 0 := by
  obtain ⟨k, hk⟩ := Int.dvd_of_emod_eq_zero hx
  obtain ⟨m, hm⟩ := Int.dvd_of_emod_eq_zero hy
  have e1 : x = x' + 18446744073709551616 * k := by omega
  have e2 : y = y' + 18446744073709551616 * m := by omega
  have e3 : x * y - x' * y' = 18446744073709551616 * (x' * m + k * y' + k * (18446744073709551616 * m)) := by
    rw [e1, e2]
    simp only [Int.add_mul, Int.mul_add]
    have h1 : x' * (18446744073709551616 * m) = 18446744073709551616 * (x' * m) := by rw [Int.mul_left_comm]
    have h2 : 18446744073709551616 * k * y' = 18446744073709551616 * (k * y') := by rw [Int.mul_assoc]
    have h3 : 18446744073709551616 * k * (18446744073709551616 * m) = 18446744073709551616 * (k * (18446744073709551616 * m)) := by rw [Int.mul_assoc]
    rw [h1, h2, h3]
    omega
  rw [e3]
  exact Int.mul_emod_right _ _
theorem add_turn {x x' y y' : Int} (hx : (x - x') % 18446744073709551616 = 0) (hy : (y - y') % 18446744073709551616 = 0) : (x + y - (x' + y')) % 18446744073709551616 = 0 := by omega
theorem sub_turn {x x' y y' : Int} (hx : (x - x') % 18446744073709551616 = 0) (hy : (y - y') % 18446744073709551616 = 0) : (x - y - (x' - y')) % 18446744073709551616 = 0 := by omega
theorem u_turn (x : Int) : (x % 18446744073709551616 - x) % 18446744073709551616 = 0 := by omega
theorem turn_trans {x y z : Int} (h : (x - y) % 18446744073709551616 = 0) (h' : (y - z) % 18446744073709551616 = 0) : (x - z) % 18446744073709551616 = 0 := by omega

theorem tmod_lt {a b : Int} (hb : b ≠ 0) : (a.tmod b).natAbs < b.natAbs := by
  rw [Int.natAbs_tmod]
  exact Nat.mod_lt _ (by omega)
theorem tmod_in {a b : Int} (hb : b ≠ 0) (h : In64 b) : In64 (a.tmod b) := by
  have := tmod_lt (a := a) hb
  unfold In64 at *
  omega

/-- The document's quotient: of the sizes, with the sign that both tell. -/
def sizeI (a : Int) : Int := if a < 0 then -a else a
def quoI (a b : Int) : Int := if (decide (a < 0) != decide (b < 0)) = true then -(sizeI a / sizeI b) else sizeI a / sizeI b
theorem quoI_eq (a b : Int) : quoI a b = a.tdiv b := by
  unfold quoI sizeI
  by_cases ha : a < 0 <;> by_cases hb : b < 0
  · have : a.tdiv b = (-a).tdiv (-b) := by rw [Int.neg_tdiv, Int.tdiv_neg, Int.neg_neg]
    rw [this, Int.tdiv_eq_ediv_of_nonneg (by omega)]
    simp [ha, hb]
  · have : a.tdiv b = -((-a).tdiv b) := by rw [Int.neg_tdiv, Int.neg_neg]
    rw [this, Int.tdiv_eq_ediv_of_nonneg (by omega)]
    simp [ha, hb]
  · have : a.tdiv b = -(a.tdiv (-b)) := by rw [Int.tdiv_neg, Int.neg_neg]
    rw [this, Int.tdiv_eq_ediv_of_nonneg (by omega)]
    simp [ha, hb]
  · rw [Int.tdiv_eq_ediv_of_nonneg (by omega)]
    simp [ha, hb]

theorem add_ref (a b : Int) : wrap64 ((a % 18446744073709551616 + b % 18446744073709551616) % 18446744073709551616) = wrap64 (a + b) := w64_same (by omega)
theorem sub_ref (a b : Int) : wrap64 ((a % 18446744073709551616 - b % 18446744073709551616) % 18446744073709551616) = wrap64 (a - b) := w64_same (by omega)
theorem mul_ref (a b : Int) : wrap64 (((a % 18446744073709551616) * (b % 18446744073709551616)) % 18446744073709551616) = wrap64 (a * b) :=
  w64_same (turn_trans (u_turn _) (mul_turn (u_turn a) (u_turn b)))
theorem sub_neg (a b : Int) : wrap64 (a + wrap64 (-b)) = wrap64 (a - b) := w64_same (by unfold wrap64; omega)
theorem neg_ref (a : Int) : wrap64 (-(a % 18446744073709551616) % 18446744073709551616) = wrap64 (-a) := w64_same (by omega)
theorem size_ref {a : Int} (h : In64 a) (hn : a < 0) : -(a % 18446744073709551616) % 18446744073709551616 = sizeI a := by unfold In64 at h; unfold sizeI; rw [if_pos hn]; omega
theorem size_ref' {a : Int} (h : In64 a) (hn : ¬ a < 0) : a % 18446744073709551616 = sizeI a := by unfold In64 at h; unfold sizeI; rw [if_neg hn]; omega
theorem mod_ref {a b : Int} (ha : In64 a) (hb : In64 b) (h0 : b ≠ 0) :
    wrap64 ((a % 18446744073709551616 - ((b % 18446744073709551616) * (wrap64 (a.tdiv b) % 18446744073709551616)) % 18446744073709551616) % 18446744073709551616) = a.tmod b := by
  have e : a.tmod b = a - b * a.tdiv b := by have := Int.mul_tdiv_add_tmod a b; omega
  rw [← w64_id (tmod_in (a := a) h0 hb), e]
  refine w64_same (turn_trans (u_turn _) (sub_turn (u_turn a) (turn_trans (u_turn _) (mul_turn (u_turn b) (turn_trans (u_turn _) (w64_mod _))))))

/-- What follows. -/
theorem back_sub {a : Int} (b : Int) (ha : In64 a) : wrap64 (wrap64 (a - b) + b) = a := by
  rw [← w64_id ha, w64_id ha]
  exact (w64_same (by unfold wrap64; omega)).trans (w64_id ha)
theorem back_quo {a b : Int} (ha : In64 a) : wrap64 (wrap64 (wrap64 (a.tdiv b) * b) + a.tmod b) = a := by
  have e : a = a.tdiv b * b + a.tmod b := by have := Int.tdiv_mul_add_tmod a b; omega
  have h : wrap64 (wrap64 (wrap64 (a.tdiv b) * b) + a.tmod b) = wrap64 (a.tdiv b * b + a.tmod b) :=
    w64_same (add_turn (turn_trans (w64_mod _) (mul_turn (w64_mod _) (by omega))) (by omega))
  rw [h, ← e, w64_id ha]
end Go.Proofs.Ytcfgoekgopnfkaa
