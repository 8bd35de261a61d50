/- Parts of the proof: PgB. Conditions: each theorem's own. -/
import Derived.Test.YtkbpdoomhfkngaaF04
import Derived.Test.YtkbpdoomhfkngaaF05
namespace Go.Proofs.Ytkbpdoomhfkngaa
set_option linter.unusedVariables false
set_option linter.unusedSimpArgs false
set_option maxRecDepth 100000
set_option maxHeartbeats 40000000
section
open Go.RowKit
end
end Go.Proofs.Ytkbpdoomhfkngaa
