/- Which parts are right, of the document's text. Conditions: names of at most 1000 bytes, at most 100 arms. -/
import Derived.Test.YtapnodhgjfbjjaaExF
import Derived.Test.YtapnodhgjfbjjaaIdZ
namespace Go.Proofs.Ytapnodhgjfbjjaa
open Go.RowKit Go.Sort
set_option linter.unusedVariables false

def literalX (x : Ex) : Bool := if x.k == 5 then (x.op == 1) && (x.subs.length == 1) && ((subX x 0).k == 1) else (x.k == 1) || (x.k == 2) || (x.k == 4)
def constX (x : Ex) : Bool := if x.k == 14 then x.subs.all literalX else literalX x

theorem int_len (n : Nat) : ((n : Int) == 1) = (n == 1) := by rw [Bool.eq_iff_iff]; simp; omega

/-! ### Const and the rest -/
def numbersX (x : Ex) : Bool :=
  if x.op < (if x.k == 6 then 3 else if x.k == 5 then 1 else 0) ∨ (if x.k == 6 then 16 else if x.k == 5 then 2 else 0) < x.op then false
  else if x.k == 1 then decide (0 ≤ x.n) else if (x.k == 2 || x.k == 13) then (x.n == 0 || x.n == 1) else x.n == 0

end Go.Proofs.Ytapnodhgjfbjjaa
