/- Plain arithmetic of numbers as bytes: no program is named here. Conditions: none. -/
namespace Go.Proofs.Ytjihgpjpmfeakaa

def getStep (a x : Int) : Int := (a * 256 + x) % 18446744073709551616
def getL (l : List Int) : Int := l.foldl getStep 0
def byteAt (a : Int) (i : Nat) : Int := a / 256 ^ i % 256
def putL (a : Int) (s : Nat) : List Int := (List.range s).map fun j => byteAt a (s - 1 - j)
def sgn (a : Int) (s : Nat) : Int := if a % 256 ^ s < 128 * 256 ^ (s - 1) then a % 256 ^ s else a % 256 ^ s - 256 ^ s
def Fits (n : Int) (s : Nat) : Prop := -(128 * 256 ^ (s - 1)) ≤ n ∧ n < 128 * 256 ^ (s - 1)
def wid (n : Int) : Nat :=
  if -128 ≤ n ∧ n < 128 then 1
  else if -32768 ≤ n ∧ n < 32768 then 2
  else if -8388608 ≤ n ∧ n < 8388608 then 3
  else if -2147483648 ≤ n ∧ n < 2147483648 then 4
  else if -549755813888 ≤ n ∧ n < 549755813888 then 5
  else if -140737488355328 ≤ n ∧ n < 140737488355328 then 6
  else if -36028797018963968 ≤ n ∧ n < 36028797018963968 then 7
  else 8
def I64 (n : Int) : Prop := -9223372036854775808 ≤ n ∧ n ≤ 9223372036854775807
def U64 (n : Int) : Prop := 0 ≤ n ∧ n ≤ 18446744073709551615
def u64 (n : Int) : Int := n % 18446744073709551616
/-- The first byte says no more than the second's sign. -/
def Idle (b0 b1 : Int) : Prop := b0 = 0 ∧ b1 < 128 ∨ b0 = 255 ∧ 128 ≤ b1

theorem getL_snoc (l : List Int) (x : Int) : getL (l ++ [x]) = getStep (getL l) x := by simp [getL]
theorem getL_bd (l : List Int) : 0 ≤ getL l ∧ getL l ≤ 18446744073709551615 := by
  rcases l.eq_nil_or_concat with rfl | ⟨l', x, rfl⟩
  · simp [getL]
  · rw [List.concat_eq_append, getL_snoc]; unfold getStep; omega
theorem byteAt_bd (a : Int) (i : Nat) : 0 ≤ byteAt a i ∧ byteAt a i ≤ 255 := by unfold byteAt; omega
theorem putL_length (a : Int) (s : Nat) : (putL a s).length = s := by simp [putL]
theorem putL_get (a : Int) (s i : Nat) (h : i < s) : (putL a s)[i]?.getD 0 = byteAt a (s - 1 - i) := by simp [putL, h]
theorem putL_succ (a : Int) (k : Nat) : putL a (k + 1) = byteAt a k :: putL a k := by
  apply List.ext_getElem
  · simp [putL_length]
  · intro i h1 h2
    simp [putL_length] at h1
    cases i with
    | zero => simp [putL]
    | succ i =>
      simp only [putL, List.getElem_cons_succ, List.getElem_map, List.getElem_range]
      congr 1
      omega
theorem div_succ (a : Int) (k : Nat) : a / 256 ^ (k + 1) = a / 256 ^ k / 256 := by
  rw [Int.pow_succ, Int.ediv_ediv_of_nonneg (Int.le_of_lt (Int.pow_pos (by omega)))]
theorem div_le {a b : Int} (h0 : 0 ≤ a) (h1 : a ≤ b) (k : Nat) : a / 256 ^ k ≤ b := Int.le_trans (Int.ediv_le_self _ h0) h1
theorem div_nn {a : Int} (h0 : 0 ≤ a) (k : Nat) : 0 ≤ a / 256 ^ k := Int.ediv_nonneg h0 (Int.le_of_lt (Int.pow_pos (by omega)))

theorem byte_top (a : Int) (k : Nat) : byteAt a k * 256 ^ k + a % 256 ^ k = a % 256 ^ (k + 1) := by
  unfold byteAt
  have hp : (0 : Int) < 256 ^ k := Int.pow_pos (by omega)
  have h1 := Int.mul_ediv_add_emod a (256 ^ k)
  have h2 := Int.mul_ediv_add_emod (a / 256 ^ k) 256
  generalize hq : a / 256 ^ k / 256 = q at *
  generalize hb : a / 256 ^ k % 256 = b at *
  have hb0 : 0 ≤ b ∧ b < 256 := by omega
  have hr0 := Int.emod_nonneg a (Int.ne_of_gt hp)
  have hr1 := Int.emod_lt_of_pos a hp
  generalize hr : a % 256 ^ k = r at *
  generalize hP : (256 : Int) ^ k = P at *
  have e : a = P * 256 * q + (b * P + r) := by
    rw [← h1, ← h2, Int.mul_add, ← Int.mul_assoc, Int.mul_comm b P]
    omega
  have hbP : b * P ≤ 255 * P := Int.mul_le_mul_of_nonneg_right (by omega) (by omega)
  have hbP0 : 0 ≤ b * P := Int.mul_nonneg hb0.1 (by omega)
  rw [e, Int.pow_succ, hP]
  rw [Int.mul_add_emod_self_left]
  exact (Int.emod_eq_of_lt (by omega) (by omega)).symm

theorem fold_put (a : Int) : ∀ (s : Nat) (i : Int), (putL a s).foldl getStep i = if s = 0 then i else (i * 256 ^ s + a % 256 ^ s) % 18446744073709551616
  | 0, i => by simp [putL]
  | s + 1, i => by
    rw [putL_succ, List.foldl_cons, fold_put a s]
    by_cases h : s = 0
    · subst h
      simp [getStep, byteAt]
    · rw [if_neg h, if_neg (by omega), getStep, ← byte_top, Int.pow_succ, Int.add_emod, Int.mul_emod, Int.emod_emod_of_dvd _ (Int.dvd_refl _), ← Int.mul_emod, ← Int.add_emod, Int.add_mul]
      congr 1
      rw [Int.mul_assoc, Int.mul_comm 256, ← Int.mul_assoc]
      omega

theorem getL_put {a : Int} {s : Nat} (h8 : s ≤ 8) : getL (putL a s) = a % 256 ^ s := by
  rw [getL, fold_put]
  by_cases h : s = 0
  · subst h; simp
  · rw [if_neg h, Int.zero_mul, Int.zero_add]
    obtain rfl | rfl | rfl | rfl | rfl | rfl | rfl | rfl : s = 1 ∨ s = 2 ∨ s = 3 ∨ s = 4 ∨ s = 5 ∨ s = 6 ∨ s = 7 ∨ s = 8 := by omega
    all_goals omega

theorem byteAt_mod {a : Int} {s i : Nat} (h : i < s) : byteAt (a % 256 ^ s) i = byteAt a i := by
  unfold byteAt
  obtain ⟨d, rfl⟩ : ∃ d, s = i + 1 + d := ⟨s - i - 1, by omega⟩
  have hp : (0 : Int) < 256 ^ i := Int.pow_pos (by omega)
  have h1 := Int.mul_ediv_add_emod a (256 ^ (i + 1 + d))
  generalize hq : a / 256 ^ (i + 1 + d) = q at *
  generalize hr : a % 256 ^ (i + 1 + d) = r at *
  rw [← h1, Int.pow_add, Int.pow_succ, show (256 : Int) ^ i * 256 * 256 ^ d * q + r = r + 256 ^ i * (256 * (256 ^ d * q)) from by
    rw [Int.mul_assoc, Int.mul_assoc, Int.add_comm], Int.add_mul_ediv_left _ _ (Int.ne_of_gt hp), Int.add_mul_emod_self_left]

theorem putL_mod (a : Int) (s : Nat) : putL (a % 256 ^ s) s = putL a s := by
  unfold putL
  apply List.map_congr_left
  intro j hj
  have := List.mem_range.1 hj
  exact byteAt_mod (by omega)

theorem putL_ex : ∀ (l : List Int), (∀ z ∈ l, 0 ≤ z ∧ z ≤ 255) → ∃ a, 0 ≤ a ∧ a < 256 ^ l.length ∧ l = putL a l.length
  | [], _ => ⟨0, by simp, by simp, by simp [putL]⟩
  | b :: l, h => by
    obtain ⟨a, h0, h1, e⟩ := putL_ex l fun z hz => h z (List.mem_cons_of_mem _ hz)
    have hb := h b List.mem_cons_self
    have hp : (0 : Int) < 256 ^ l.length := Int.pow_pos (by omega)
    have hbP : b * 256 ^ l.length ≤ 255 * 256 ^ l.length := Int.mul_le_mul_of_nonneg_right hb.2 (by omega)
    have hbP0 : 0 ≤ b * 256 ^ l.length := Int.mul_nonneg hb.1 (by omega)
    refine ⟨b * 256 ^ l.length + a, by omega, ?_, ?_⟩
    · rw [List.length_cons, Int.pow_succ]; omega
    · rw [List.length_cons, putL_succ, ← putL_mod (b * 256 ^ l.length + a), Int.add_comm, Int.add_mul_emod_self_right, Int.emod_eq_of_lt h0 h1, ← e]
      congr 1
      unfold byteAt
      rw [Int.add_mul_ediv_right _ _ (Int.ne_of_gt hp), Int.ediv_eq_zero_of_lt h0 h1]
      omega

theorem cases8 {s : Nat} (h1 : 1 ≤ s) (h8 : s ≤ 8) : s = 1 ∨ s = 2 ∨ s = 3 ∨ s = 4 ∨ s = 5 ∨ s = 6 ∨ s = 7 ∨ s = 8 := by omega

theorem sgn_fits {n : Int} {s : Nat} (h1 : 1 ≤ s) (h8 : s ≤ 8) (hn : I64 n) : sgn (u64 n) s = n ↔ Fits n s := by
  unfold I64 at hn
  obtain rfl | rfl | rfl | rfl | rfl | rfl | rfl | rfl := cases8 h1 h8
  all_goals (unfold sgn Fits u64; simp; omega)

theorem fits_sgn (a : Int) {s : Nat} (h1 : 1 ≤ s) (h8 : s ≤ 8) : Fits (sgn a s) s := by
  obtain rfl | rfl | rfl | rfl | rfl | rfl | rfl | rfl := cases8 h1 h8
  all_goals (unfold sgn Fits; simp; omega)

theorem sgn_mod (a : Int) (s : Nat) : sgn (a % 256 ^ s) s = sgn a s := by
  unfold sgn
  rw [Int.emod_emod_of_dvd _ (Int.dvd_refl _)]

theorem u64_sgn (a : Int) {s : Nat} (h1 : 1 ≤ s) (h8 : s ≤ 8) : u64 (sgn a s) % 256 ^ s = a % 256 ^ s := by
  obtain rfl | rfl | rfl | rfl | rfl | rfl | rfl | rfl := cases8 h1 h8
  all_goals (unfold sgn u64; simp; omega)

theorem fits_i64 {n : Int} {s : Nat} (h : Fits n s) (h1 : 1 ≤ s) (h8 : s ≤ 8) : I64 n := by
  unfold Fits at h
  unfold I64
  obtain rfl | rfl | rfl | rfl | rfl | rfl | rfl | rfl := cases8 h1 h8
  all_goals (simp at h; omega)

theorem fits_8 {n : Int} (h : I64 n) : Fits n 8 := by unfold I64 at h; unfold Fits; simp; omega

theorem fits_mono {n : Int} {j k : Nat} (h : Fits n j) (hk : j ≤ k) : Fits n k := by
  unfold Fits at *
  have : (256 : Int) ^ (j - 1) ≤ 256 ^ (k - 1) := by
    have h1 : (256 : Nat) ^ (j - 1) ≤ 256 ^ (k - 1) := Nat.pow_le_pow_right (by omega) (by omega)
    have h2 : ((256 ^ (j - 1) : Nat) : Int) ≤ ((256 ^ (k - 1) : Nat) : Int) := by exact_mod_cast h1
    simpa using h2
  omega

theorem idle_iff {n : Int} {k : Nat} (h2 : 2 ≤ k) (h8 : k ≤ 8) (h : Fits n k) : Idle (byteAt (u64 n) (k - 1)) (byteAt (u64 n) (k - 2)) ↔ Fits n (k - 1) := by
  unfold Fits at *
  obtain rfl | rfl | rfl | rfl | rfl | rfl | rfl | rfl := cases8 (by omega : 1 ≤ k) h8
  · omega
  all_goals (unfold Idle byteAt u64; simp at h ⊢; omega)

theorem wid_eq {n : Int} {k : Nat} (h1 : 1 ≤ k) (h8 : k ≤ 8) (hn : ∀ j, 1 ≤ j → j < k → ¬ Fits n j) (hk : k = 8 ∨ Fits n k) : wid n = k := by
  have f1 := fun h => hn 1 (Nat.le_refl _) h
  have f2 := fun h => hn 2 (by omega) h
  have f3 := fun h => hn 3 (by omega) h
  have f4 := fun h => hn 4 (by omega) h
  have f5 := fun h => hn 5 (by omega) h
  have f6 := fun h => hn 6 (by omega) h
  have f7 := fun h => hn 7 (by omega) h
  unfold Fits at *
  unfold wid
  obtain rfl | rfl | rfl | rfl | rfl | rfl | rfl | rfl := cases8 h1 h8
  all_goals (simp at f1 f2 f3 f4 f5 f6 f7 hk; (repeat' split) <;> omega)

theorem wid_eq' {n : Int} {k : Nat} (h1 : 1 ≤ k) (h8 : k ≤ 8) (hn : k = 1 ∨ ¬ Fits n (k - 1)) (hk : Fits n k) : wid n = k :=
  wid_eq h1 h8 (fun j hj hjk hf => by
    rcases hn with rfl | hn
    · omega
    · exact hn (fits_mono hf (by omega))) (.inr hk)

theorem wid_bd (n : Int) : 1 ≤ wid n ∧ wid n ≤ 8 := by
  unfold wid
  (repeat' split) <;> omega

theorem wid_fits {n : Int} (h : I64 n) : Fits n (wid n) := by
  unfold I64 at h
  unfold wid Fits
  (repeat' split) <;> (simp; omega)

theorem wid_least {n : Int} {j : Nat} (h1 : 1 ≤ j) (hj : j < wid n) : ¬ Fits n j := by
  have hb := wid_bd n
  intro hf
  obtain rfl | rfl | rfl | rfl | rfl | rfl | rfl | rfl := cases8 h1 (by omega : j ≤ 8)
  all_goals (unfold Fits at hf; simp at hf; unfold wid at hj; revert hj; (repeat' split) <;> omega)

theorem i64_wrap_put {a : Int} {s : Nat} (h1 : 1 ≤ s) (h8 : s ≤ 8) (i : Int) (h0 : 0 ≤ a) (ha : a < 256 ^ s) (hi : i = if 128 ≤ byteAt a (s - 1) then 18446744073709551615 else 0) :
    ∀ r, r = (putL a s).foldl getStep i → sgn a s = (if r < 9223372036854775808 then r else r - 18446744073709551616) := by
  intro r hr
  rw [fold_put, if_neg (by omega)] at hr
  obtain rfl | rfl | rfl | rfl | rfl | rfl | rfl | rfl := cases8 h1 h8
  all_goals (unfold sgn; unfold byteAt at hi; simp at *; omega)
end Go.Proofs.Ytjihgpjpmfeakaa
