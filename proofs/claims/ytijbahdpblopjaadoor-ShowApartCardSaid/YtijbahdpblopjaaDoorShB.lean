/- The text of a call: of the document's text. Conditions: names of at most 1000 bytes, numbers of 64 bits, at most 1000 parts. -/
import Derived.Test.YtijbahdpblopjaaDoorShA
namespace Go.Proofs.YtijbahdpblopjaaDoor
open Go.RowKit Go.Sort
set_option linter.unusedVariables false
set_option linter.unusedSimpArgs false

theorem take_getD {l : List Ex} {m i : Nat} (h : i < m) : (l.take m)[i]?.getD default = l[i]?.getD default := by
  rw [List.getElem?_take_of_lt h]

/-- The first subs of an expression, as a slice. -/
theorem RdX.take {w : World} {A : Option Addr} {n m : Nat} {l : List Ex} (h : RdX w A n l) (hm : m ≤ n) : RdX w A m (l.take m) := by
  have hl := h.1
  have hx := h.2.1
  refine ⟨by simp; omega, by omega, fun hp => ?_⟩
  obtain ⟨b, off, e, hb, hr⟩ := h.2.2 (by omega)
  refine ⟨b, off, e, hb, rdXs_of _ fun i hi => ?_⟩
  simp only [List.length_take] at hi
  rw [take_getD (by omega)]
  exact rdXs_at l hr i (by omega)

end Go.Proofs.YtijbahdpblopjaaDoor
