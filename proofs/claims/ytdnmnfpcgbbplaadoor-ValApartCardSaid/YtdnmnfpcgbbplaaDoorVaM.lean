/- Which values a type has, as plain functions of lists; the texts of values. Conditions: none. -/
import Derived.Test.YtdnmnfpcgbbplaaDoorTyT
import Derived.Lib.ItoaLen
import Derived.Lib.Join
import Derived.Lib.Small
namespace Go.Proofs.YtdnmnfpcgbbplaaDoor
open Go.RowKit
set_option linter.unusedVariables false

/-- Whether z is a value of a cell. -/
def oneB (es : List En) (k e l z : Int) : Bool :=
  rightB es.length k e l && (if k = 1 then true else if k = 2 then decide (z = 0 ∨ z = 1) else decide (0 ≤ z ∧ z < (csE es e.toNat).length))
def oneAt (es : List En) (k e l : Int) (zs : List Int) (i : Nat) : Bool := oneB es k e l (zs[i]?.getD 0)
/-- Whether zs is a value. -/
def rightVB (es : List En) (k e l : Int) (zs : List Int) : Bool := decide ((zs.length : Int) = cellsN l) && zs.all fun z => oneB es k e l z
def zerosL (l : Int) : List Int := List.replicate (cellsN l).toNat 0
def kindN (k e : Int) : Int := if k = 1 then 1 else if k = 2 then 2 else if k = 3 ∧ 0 ≤ e ∧ e ≤ 1000 then 3 + e else 0
def sameB (l m : List Int) : Bool := decide (l = m)

section
variable {es : List En} {k e l z : Int} {zs ys : List Int} {i : Nat}
theorem one_no (h : rightB es.length k e l = false) : oneB es k e l z = false := by simp [oneB, h]
theorem one_int (h : rightB es.length 1 e l = true) : oneB es 1 e l z = true := by simp [oneB, h]
theorem one_bool (h : rightB es.length 2 e l = true) : oneB es 2 e l z = decide (z = 0 ∨ z = 1) := by simp [oneB, h]
theorem one_enum {m : Nat} (h : rightB es.length 3 (m : Int) l = true) : oneB es 3 (m : Int) l z = decide (0 ≤ z ∧ z < (csE es m).length) := by simp [oneB, h]
theorem one_right (h : oneB es k e l z = true) : rightB es.length k e l = true := by
  unfold oneB at h
  simp only [Bool.and_eq_true] at h
  exact h.1
theorem cellsN_pos (l : Int) : 1 ≤ cellsN l ∧ cellsN l ≤ 8 := by unfold cellsN; omega

def onesTo (es : List En) (k e l : Int) (zs : List Int) (i : Nat) : Prop := ∀ j, j < i → oneAt es k e l zs j = true
theorem onesTo_succ (H : onesTo es k e l zs i) (h : oneAt es k e l zs i = true) : onesTo es k e l zs (i + 1) := fun j hj => by
  rcases Nat.lt_or_ge j i with h1 | h1
  · exact H j h1
  · obtain rfl : j = i := by omega
    exact h
theorem rightV_len (h : ¬ (zs.length : Int) = cellsN l) : rightVB es k e l zs = false := by simp [rightVB, h]
theorem rightV_bad (hi : i < zs.length) (h : oneAt es k e l zs i = false) : rightVB es k e l zs = false := by
  unfold rightVB
  have : (zs.all fun z => oneB es k e l z) = false := by
    rw [List.all_eq_false]
    refine ⟨zs[i]'hi, List.getElem_mem hi, ?_⟩
    unfold oneAt at h
    rw [List.getElem?_eq_getElem hi, Option.getD_some] at h
    simp [h]
  rw [this, Bool.and_false]
theorem rightV_yes (hl : (zs.length : Int) = cellsN l) (H : onesTo es k e l zs i) (hi : zs.length ≤ i) : rightVB es k e l zs = true := by
  unfold rightVB
  rw [decide_eq_true hl, Bool.true_and, List.all_eq_true]
  intro z hz
  obtain ⟨j, hj, rfl⟩ := List.getElem_of_mem hz
  have := H j (by omega)
  unfold oneAt at this
  rwa [List.getElem?_eq_getElem hj, Option.getD_some] at this
theorem rightV_at (h : rightVB es k e l zs = true) : (zs.length : Int) = cellsN l ∧ onesTo es k e l zs zs.length := by
  unfold rightVB at h
  simp only [Bool.and_eq_true, decide_eq_true_eq, List.all_eq_true] at h
  refine ⟨h.1, fun j hj => ?_⟩
  unfold oneAt
  rw [List.getElem?_eq_getElem hj, Option.getD_some]
  exact h.2 _ (List.getElem_mem hj)
theorem rightV_right (h : rightVB es k e l zs = true) : rightB es.length k e l = true := by
  obtain ⟨h1, h2⟩ := rightV_at h
  have := cellsN_pos l
  exact one_right (h2 0 (by omega))
theorem rightV_no (h : rightB es.length k e l = false) : rightVB es k e l zs = false := by
  cases hv : rightVB es k e l zs with
  | false => rfl
  | true => rw [rightV_right hv] at h; cases h

theorem sameB_len (h : zs.length ≠ ys.length) : sameB zs ys = false := decide_eq_false fun e => h (by rw [e])
def sameZ (zs ys : List Int) (i : Nat) : Prop := ∀ j, j < i → zs[j]?.getD 0 = ys[j]?.getD 0
theorem sameZ_succ (H : sameZ zs ys i) (h : zs[i]?.getD 0 = ys[i]?.getD 0) : sameZ zs ys (i + 1) := fun j hj => by
  rcases Nat.lt_or_ge j i with h1 | h1
  · exact H j h1
  · obtain rfl : j = i := by omega
    exact h
theorem sameB_bad (h : ¬ zs[i]?.getD 0 = ys[i]?.getD 0) : sameB zs ys = false := decide_eq_false fun e => h (by rw [e])
theorem sameB_yes (hl : zs.length = ys.length) (H : sameZ zs ys i) (hi : zs.length ≤ i) : sameB zs ys = true := decide_eq_true (by
  refine List.ext_getElem hl fun j h1 h2 => ?_
  have := H j (by omega)
  rwa [List.getElem?_eq_getElem h1, List.getElem?_eq_getElem h2] at this)
end

/-! ### Texts -/
def trueT : ByteArray := ⟨#[116, 114, 117, 101]⟩
def falseT : ByteArray := ⟨#[102, 97, 108, 115, 101]⟩
/-- A cell's text. -/
def cellT (es : List En) (k e z : Int) : ByteArray := if k = 1 then ⟨(Lib.itoa z).toArray⟩ else if k = 2 then (if z = 1 then trueT else falseT) else ctAt es e.toNat z.toNat
def listT (es : List En) (k e : Int) (zs : List Int) : List UInt8 := Lib.join (zs.map fun z => (cellT es k e z).data.toList) [44]
/-- A value's text. -/
def valT (es : List En) (k e l : Int) (zs : List Int) : ByteArray :=
  if rightVB es k e l zs = true then (if l = 0 then cellT es k e (zs[0]?.getD 0) else (⟨#[91]⟩ : ByteArray) ++ ⟨(listT es k e zs).toArray⟩ ++ ⟨#[93]⟩) else ⟨#[]⟩

section
variable {es : List En} {k e l z : Int} {zs ys : List Int} {i : Nat}
theorem valT_no (h : rightVB es k e l zs = false) : valT es k e l zs = ⟨#[]⟩ := by simp [valT, h]
theorem valT_one (h : rightVB es k e 0 zs = true) : valT es k e 0 zs = cellT es k e (zs[0]?.getD 0) := by simp [valT, h]
theorem valT_many (h : rightVB es k e l zs = true) (hl : ¬ l = 0) : valT es k e l zs = (⟨#[91]⟩ : ByteArray) ++ ⟨(listT es k e zs).toArray⟩ ++ ⟨#[93]⟩ := by simp [valT, h, hl]
theorem cellT_int : cellT es 1 e z = ⟨(Lib.itoa z).toArray⟩ := rfl
theorem cellT_true : cellT es 2 e 1 = trueT := rfl
theorem cellT_false (h : ¬ z = 1) : cellT es 2 e z = falseT := by simp [cellT, h]
theorem cellT_ctor {m q : Nat} : cellT es 3 (m : Int) (q : Int) = ctAt es m q := by simp [cellT]
theorem bool_text (z : Int) : (⟨(Lib.formatBool (z == 1)).toArray⟩ : ByteArray) = cellT es 2 e z := by
  by_cases h : z = 1
  · subst h
    rw [cellT_true]
    decide
  · have : (z == 1) = false := by simpa using h
    rw [this, cellT_false h]
    decide
end
end Go.Proofs.YtdnmnfpcgbbplaaDoor
