/- Arms, names and how many subs there may be, of the document's text. Conditions: names of at most 1000 bytes, at most 100 arms. -/
import Derived.Test.YtapnodhgjfbjjaaExK
namespace Go.Proofs.Ytapnodhgjfbjjaa
open Go.RowKit Go.Sort
set_option linter.unusedVariables false

def armB (t : ByteArray) : Bool := highB t.data.toList || (t.toList == [116, 114, 117, 101]) || (t.toList == [102, 97, 108, 115, 101])
def armsX (x : Ex) : Bool := x.arms.all armB && (if x.k == 11 then x.arms.length == 1 else if x.k == 12 then decide (1 ≤ x.arms.length) && decide (x.arms.length ≤ 6) && onceS x.arms else x.arms.length == 0)
def namedX (x : Ex) : Bool := if x.k == 3 || x.k == 11 || x.k == 12 || x.k == 13 then lowB x.s.data.toList else if x.k == 4 then highB x.s.data.toList else if x.k == 17 then pathB x.s.data.toList else x.s.toList == []

def subsX (x : Ex) : Int × Int :=
  if x.k == 5 || x.k == 10 || x.k == 11 then (1, 1) else if x.k == 6 || x.k == 8 || x.k == 9 || x.k == 15 then (2, 2) else if x.k == 7 || x.k == 16 then (3, 3)
  else if x.k == 12 then (x.arms.length, x.arms.length) else if x.k == 13 then (x.n, 6 + x.n) else if x.k == 14 then (1, 8) else (0, 0)

end Go.Proofs.Ytapnodhgjfbjjaa
