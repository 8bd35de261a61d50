/- Which expressions are right, and their variables, of the document's text. Conditions: names of at most 1000 bytes, at most 100 arms. -/
import Derived.Test.YtapnodhgjfbjjaaExN
namespace Go.Proofs.Ytapnodhgjfbjjaa
open Go.RowKit Go.Sort
set_option linter.unusedVariables false

/-- A part's texts are short. -/
def ShortP (p : Ex) : Prop := p.s.size ≤ 1000 ∧ (∀ t ∈ p.arms, t.size ≤ 9223372036854775807) ∧ p.arms.length ≤ 100
theorem ShortP.of_few {p : Ex} (h : fewP p = true) : ShortP p := by
  simp only [fewP, Bool.and_eq_true, Bool.not_eq_true', decide_eq_false_iff_not, List.all_eq_true] at h
  obtain ⟨⟨h1, h2⟩, h3⟩ := h
  refine ⟨by omega, fun t ht => ?_, by omega⟩
  have := h3 t ht
  simp only [fewA, Bool.not_eq_true', decide_eq_false_iff_not] at this
  omega

def partX (x : Ex) : Bool := decide (1 ≤ x.k) && decide (x.k ≤ 17) && numbersX x && namedX x && armsX x && decide ((subsX x).1 ≤ x.subs.length) && decide ((x.subs.length : Int) ≤ (subsX x).2) && ((x.k != 8) || constX (subX x 0))
def rightX (x : Ex) : Bool := !decide (60 < sizeX x) && !decide (12 < depthX x) && (partsX x).all partX

theorem numbers_13 {x : Ex} (h : numbersX x = true) (hk : x.k = 13) : x.n = 0 ∨ x.n = 1 := by
  unfold numbersX at h
  rw [hk] at h
  simp at h
  exact h.2
theorem subs_8 {x : Ex} (hk : x.k = 8) : subsX x = (2, 2) := by
  unfold subsX
  rw [hk]
  rfl

/-- An expression's variables. -/
def isVar (p : Ex) : Bool := (p.k == 3) || (p.k == 11) || (p.k == 12)
def varsX (x : Ex) : List ByteArray := ((partsX x).filter isVar).map Ex.s
end Go.Proofs.Ytapnodhgjfbjjaa
