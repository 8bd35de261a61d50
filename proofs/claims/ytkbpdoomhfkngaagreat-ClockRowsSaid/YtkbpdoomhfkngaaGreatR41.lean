/- Parts of the proof: ClS, ClT. Conditions: each theorem's own. -/
import Derived.Test.YtkbpdoomhfkngaaGreatR37
namespace Go.Proofs.YtkbpdoomhfkngaaGreat
set_option linter.unusedVariables false
set_option linter.unusedSimpArgs false
set_option maxRecDepth 100000
set_option maxHeartbeats 40000000
section
open Go.RowKit Go.Sort Go.BigFrame
end
section
open Go.RowKit Go.Sort Go.BigFrame
end
end Go.Proofs.YtkbpdoomhfkngaaGreat
