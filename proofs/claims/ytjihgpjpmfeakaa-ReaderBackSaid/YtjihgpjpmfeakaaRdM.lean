/- What reading piece by piece tells, as plain functions on lists: no program is named here. Conditions: none. -/
import Derived.Test.YtjihgpjpmfeakaaBackR
namespace Go.Proofs.Ytjihgpjpmfeakaa

/-- The next k bytes behind the place; 'none' is one that failed. -/
def takeS (l : List Int) : Option Nat → Nat → Option Nat × List Int
  | none, _ => (none, [])
  | some p, k => if p + k ≤ l.length then (some (p + k), (l.drop p).take k) else (none, [])
def numS (l : List Int) (s : Option Nat) (size : Int) : Option Nat × Int :=
  if 1 ≤ size ∧ size ≤ 4 then ((takeS l s size.toNat).1, getL (takeS l s size.toNat).2) else (none, 0)
def countS (l : List Int) (s : Option Nat) (size : Int) : Option Nat × List Int := takeS l (numS l s size).1 (numS l s size).2.toNat
def intS (l : List Int) (s : Option Nat) : Option Nat × Int :=
  if backB (countS l s 1).2 then ((countS l s 1).1, backN (countS l s 1).2) else (none, 0)

theorem takeS_none (l : List Int) (k : Nat) : takeS l none k = (none, []) := rfl
theorem takeS_yes {l : List Int} {p k : Nat} (h : p + k ≤ l.length) : takeS l (some p) k = (some (p + k), (l.drop p).take k) := if_pos h
theorem takeS_no {l : List Int} {p k : Nat} (h : ¬ p + k ≤ l.length) : takeS l (some p) k = (none, []) := if_neg h
theorem takeS_le {l : List Int} {s : Option Nat} {k q : Nat} (h : (takeS l s k).1 = some q) : q ≤ l.length := by
  cases s with
  | none => simp [takeS_none] at h
  | some p =>
    by_cases hp : p + k ≤ l.length
    · rw [takeS_yes hp] at h; injection h with h; omega
    · rw [takeS_no hp] at h; cases h
theorem takeS_len (l : List Int) (s : Option Nat) (k : Nat) : (takeS l s k).2.length ≤ k := by
  cases s with
  | none => simp [takeS_none]
  | some p =>
    by_cases hp : p + k ≤ l.length
    · rw [takeS_yes hp]; simp; omega
    · rw [takeS_no hp]; simp
theorem takeS_mem {l : List Int} {s : Option Nat} {k : Nat} {z : Int} (h : z ∈ (takeS l s k).2) : z ∈ l := by
  cases s with
  | none => simp [takeS_none] at h
  | some p =>
    by_cases hp : p + k ≤ l.length
    · rw [takeS_yes hp] at h; exact List.mem_of_mem_drop (List.mem_of_mem_take h)
    · rw [takeS_no hp] at h; simp at h
/-- Who failed reads nothing. -/
theorem takeS_fail {l : List Int} {s : Option Nat} {k : Nat} (h : (takeS l s k).1 = none) : (takeS l s k).2 = [] := by
  cases s with
  | none => rfl
  | some p =>
    by_cases hp : p + k ≤ l.length
    · rw [takeS_yes hp] at h; cases h
    · rw [takeS_no hp]
theorem numS_none (l : List Int) (k : Int) : numS l none k = (none, 0) := by
  unfold numS
  split <;> rfl
theorem numS_no (l : List Int) (s : Option Nat) {k : Int} (h : ¬ (1 ≤ k ∧ k ≤ 4)) : numS l s k = (none, 0) := if_neg h
theorem numS_yes (l : List Int) (s : Option Nat) {k : Nat} (h1 : 1 ≤ k) (h4 : k ≤ 4) : numS l s k = ((takeS l s k).1, getL (takeS l s k).2) := by
  unfold numS
  rw [if_pos ⟨by omega, by omega⟩]
  rfl
theorem countS_none (l : List Int) (k : Int) : countS l none k = (none, []) := by
  unfold countS
  rw [numS_none]
  rfl
theorem getL_lt {l : List Int} {k : Nat} (h : ∀ z ∈ l, 0 ≤ z ∧ z ≤ 255) (hl : l.length ≤ k) (h4 : k ≤ 4) : 0 ≤ getL l ∧ getL l < 256 ^ k := by
  obtain ⟨a, h0, ha, e⟩ := putL_ex l h
  have hm : (256 : Int) ^ l.length ≤ 256 ^ k := by
    have h1 : (256 : Nat) ^ l.length ≤ 256 ^ k := Nat.pow_le_pow_right (by omega) hl
    have h2 : ((256 ^ l.length : Nat) : Int) ≤ ((256 ^ k : Nat) : Int) := by exact_mod_cast h1
    simpa using h2
  have : getL l = a := by
    have := getL_a (a := a) (s := l.length) (by omega) h0 ha
    rw [← e] at this
    exact this
  omega
theorem numS_bd {l : List Int} (h : ∀ z ∈ l, 0 ≤ z ∧ z ≤ 255) (s : Option Nat) (size : Int) : 0 ≤ (numS l s size).2 ∧ (numS l s size).2 ≤ 4294967295 := by
  by_cases hs : 1 ≤ size ∧ size ≤ 4
  · obtain ⟨k, rfl⟩ := Int.eq_ofNat_of_zero_le (show 0 ≤ size by omega)
    rw [numS_yes l s (by omega) (by omega)]
    have := getL_lt (l := (takeS l s k).2) (k := 4) (fun z hz => h z (takeS_mem hz)) (by have := takeS_len l s k; omega) (by omega)
    simp at this ⊢
    omega
  · rw [numS_no l s hs]; simp
theorem numS_fail {l : List Int} {s : Option Nat} {k : Int} (h : (numS l s k).1 = none) : (numS l s k).2 = 0 := by
  unfold numS at h ⊢
  split
  · rename_i hk
    rw [if_pos hk] at h
    rw [takeS_fail h]
    rfl
  · rfl
theorem numS_le {l : List Int} {s : Option Nat} {k : Int} {q : Nat} (h : (numS l s k).1 = some q) : q ≤ l.length := by
  unfold numS at h
  split at h
  · exact takeS_le h
  · cases h
theorem countS_fail {l : List Int} {s : Option Nat} {k : Int} (h : (countS l s k).1 = none) : (countS l s k).2 = [] := takeS_fail h
theorem backB_nil : backB [] = false := by decide
theorem backN_of {l : List Int} (h : backB l = false) : backN l = 0 := by
  unfold backB at h
  unfold backN
  rw [if_neg (of_decide_eq_false h)]
theorem intS_fail {l : List Int} {s : Option Nat} (h : (countS l s 1).1 = none) : intS l s = (none, 0) := by
  unfold intS
  rw [countS_fail h, backB_nil]
  rfl
theorem intS_yes {l : List Int} {s : Option Nat} (h : backB (countS l s 1).2 = true) : intS l s = ((countS l s 1).1, backN (countS l s 1).2) := by
  unfold intS
  rw [if_pos h]
theorem intS_no {l : List Int} {s : Option Nat} (h : backB (countS l s 1).2 = false) : intS l s = (none, 0) := by
  unfold intS
  rw [h]
  rfl
end Go.Proofs.Ytjihgpjpmfeakaa
