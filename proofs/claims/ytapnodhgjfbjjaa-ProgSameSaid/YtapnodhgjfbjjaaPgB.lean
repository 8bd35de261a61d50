/- Of the document's text: names, Arm. Conditions: none. -/
import Derived.Test.YtapnodhgjfbjjaaPgA
import Derived.Test.YtapnodhgjfbjjaaEnZ
namespace Go.Proofs.Ytapnodhgjfbjjaa
open Go.RowKit
set_option linter.unusedVariables false
set_option linter.unusedSimpArgs false

theorem names_succ {l : List Dc} {k : Nat} (hk : k < l.length) : (namesD l).take (k + 1) = (namesD l).take k ++ [(l[k]?.getD default).nm] := by
  rw [namesD, List.take_add_one, List.getElem?_map, List.getElem?_eq_getElem hk]
  simp
theorem names_len (l : List Dc) : (namesD l).length = l.length := by simp [namesD]

/-- What a call ends with that lays a list of texts of its own. -/
def TextsPost (w : World) (n : Nat) (ss : List ByteArray) (e : Ending) (w' : World) : Prop := ∃ A c, e = .returned (.slice A n c) ∧ RdT w' A n ss ∧ Below w.heap.size w w'

end Go.Proofs.Ytapnodhgjfbjjaa
