/- Parts of the proof: PgA. Conditions: each theorem's own. -/
import Derived.Test.YtegjgiofmpolnaaGreatK02
import Derived.Test.YtegjgiofmpolnaaGreatK06
namespace Go.Proofs.YtegjgiofmpolnaaGreat
set_option linter.unusedVariables false
set_option linter.unusedSimpArgs false
set_option maxRecDepth 100000
set_option maxHeartbeats 40000000
section
open Go.RowKit
def dcFew(d:Dc):Bool:=!decide (100<d.nm.size) && !decide (100<d.on.size) && !decide (100<d.ct.size)
def fewD(l:List Dc):Bool:=l.all dcFew && decide (l.length≤20)
end
end Go.Proofs.YtegjgiofmpolnaaGreat
