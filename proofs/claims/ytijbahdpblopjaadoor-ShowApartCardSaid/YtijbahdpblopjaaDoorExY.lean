/- An expression's variables, of the document's text. Conditions: none. -/
import Derived.Test.YtijbahdpblopjaaDoorExV
namespace Go.Proofs.YtijbahdpblopjaaDoor
open Go.RowKit Go.Sort
set_option linter.unusedVariables false

def varsTo (l : List Ex) (k : Nat) : List ByteArray := ((l.take k).filter isVar).map Ex.s
theorem varsTo_yes {l : List Ex} {k : Nat} (hk : k < l.length) (h : isVar (l[k]?.getD default) = true) : varsTo l (k + 1) = varsTo l k ++ [(l[k]?.getD default).s] := by
  rw [List.getElem?_eq_getElem hk] at h ⊢
  simp only [varsTo, List.take_succ_eq_append_getElem hk, List.filter_append, List.map_append]
  simp only [Option.getD_some] at h ⊢
  simp [h]
theorem varsTo_no {l : List Ex} {k : Nat} (hk : k < l.length) (h : isVar (l[k]?.getD default) = false) : varsTo l (k + 1) = varsTo l k := by
  rw [List.getElem?_eq_getElem hk] at h
  simp only [varsTo, List.take_succ_eq_append_getElem hk, List.filter_append, List.map_append]
  simp only [Option.getD_some] at h
  simp [h]
theorem varsTo_len (l : List Ex) (k : Nat) : (varsTo l k).length ≤ k := by
  simp only [varsTo, List.length_map]
  exact Nat.le_trans (List.length_filter_le _ _) (by simp; omega)
theorem varsTo_end (l : List Ex) (k : Nat) (h : l.length ≤ k) : varsTo l k = (l.filter isVar).map Ex.s := by rw [varsTo, List.take_of_length_le h]

end Go.Proofs.YtijbahdpblopjaaDoor
