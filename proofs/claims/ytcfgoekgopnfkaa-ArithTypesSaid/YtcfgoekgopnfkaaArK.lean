/- Which types are those of a kind; what an operator of two numbers tells, as a plain function. Conditions: none. -/
import Derived.Test.YtcfgoekgopnfkaaArV
namespace Go.Proofs.Ytcfgoekgopnfkaa
open Go.RowKit Go.Sort
set_option linter.unusedVariables false

/-- Whether a type is that of a kind, with nothing beside; whether two are the same, of one cell. -/
def isP (K k e l : Int) : Bool := decide (k = K) && decide (e = 0) && decide (l = 0)
def sameB (k e l k' e' l' : Int) : Bool := decide (k = k') && decide (e = e') && decide (l = l') && decide (l = 0)
def binTyI (op : Int) (I B S : Bool) : Option Int :=
  if 3 ≤ op ∧ op ≤ 7 then (if I then some 1 else none) else if 8 ≤ op ∧ op ≤ 10 then (if B then some 2 else none)
  else if op = 11 ∨ op = 12 then (if S then some 2 else none) else if 13 ≤ op ∧ op ≤ 16 then (if I then some 2 else none) else none

theorem isP_cases (K k e l : Int) : (k = K ∧ e = 0 ∧ l = 0 ∧ isP K k e l = true) ∨ ((k == K) = false ∧ isP K k e l = false) ∨ (k = K ∧ (e == 0) = false ∧ isP K k e l = false) ∨ (k = K ∧ e = 0 ∧ (l == 0) = false ∧ isP K k e l = false) := by
  by_cases hk : k = K
  · by_cases he : e = 0
    · by_cases hl : l = 0
      · exact .inl ⟨hk, he, hl, by simp [isP, hk, he, hl]⟩
      · exact .inr (.inr (.inr ⟨hk, he, by simpa using hl, by simp [isP, hl]⟩))
    · exact .inr (.inr (.inl ⟨hk, by simpa using he, by simp [isP, he]⟩))
  · exact .inr (.inl ⟨by simpa using hk, by simp [isP, hk]⟩)
theorem same_cases (k e l k' e' l' : Int) : (k = k' ∧ e = e' ∧ l = l' ∧ l = 0 ∧ sameB k e l k' e' l' = true) ∨ ((k == k') = false ∧ sameB k e l k' e' l' = false) ∨ (k = k' ∧ (e == e') = false ∧ sameB k e l k' e' l' = false) ∨
    (k = k' ∧ e = e' ∧ (l == l') = false ∧ sameB k e l k' e' l' = false) ∨ (k = k' ∧ e = e' ∧ l = l' ∧ (l == 0) = false ∧ sameB k e l k' e' l' = false) := by
  by_cases hk : k = k'
  · by_cases he : e = e'
    · by_cases hl : l = l'
      · by_cases h0 : l = 0
        · exact .inl ⟨hk, he, hl, h0, by simp [sameB, hk, he, ← hl, h0]⟩
        · exact .inr (.inr (.inr (.inr ⟨hk, he, hl, by simpa using h0, by simp [sameB, h0]⟩)))
      · exact .inr (.inr (.inr (.inl ⟨hk, he, by simpa using hl, by simp [sameB, hl]⟩)))
    · exact .inr (.inr (.inl ⟨hk, by simpa using he, by simp [sameB, he]⟩))
  · exact .inr (.inl ⟨by simpa using hk, by simp [sameB, hk]⟩)
theorem bin_none {op : Int} {I B S : Bool} (hop : op < 3 ∨ 16 < op) : binTyI op I B S = none := by
  unfold binTyI
  repeat rw [if_neg (by omega)]
theorem bin_diff {op k e l k' e' l' : Int} (h : sameB k e l k' e' l' = false) : binTyI op (isP 1 k e l && isP 1 k' e' l') (isP 2 k e l && isP 2 k' e' l') (sameB k e l k' e' l') = none := by
  have hI : ∀ K, (isP K k e l && isP K k' e' l') = false := fun K => by
    rw [← h]
    unfold isP sameB at *
    by_cases h1 : k = k' <;> by_cases h2 : e = e' <;> by_cases h3 : l = l' <;> by_cases h4 : l = 0 <;> simp_all
    all_goals omega
  rw [hI 1, hI 2, h]
  unfold binTyI
  simp
theorem fin {o o' : Option Int} (h : o' = o) : Ending.returned (.tuple #[tyR o, .bool o.isSome]) = Ending.returned (.tuple #[tyR o', .bool o'.isSome]) := by rw [h]
theorem and_ff {x y : Bool} (h : x = false) : false = (x && y) := by rw [h]; rfl
theorem and_tt {x y : Bool} (h : x = true) (h' : y = true) : true = (x && y) := by rw [h, h']; rfl
theorem and_tf {x y : Bool} (h : x = true) (h' : y = false) : false = (x && y) := by rw [h, h']; rfl
theorem isP_one (e l : Int) : isP 2 1 e l = false := by simp [isP]
theorem isP_two {k e l : Int} (h : isP 1 k e l = true) : isP 2 k e l = false := by
  simp [isP] at h ⊢
  omega

end Go.Proofs.Ytcfgoekgopnfkaa
