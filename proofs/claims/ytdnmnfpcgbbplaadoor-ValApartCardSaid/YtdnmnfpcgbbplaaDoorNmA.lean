/- What ident's inner functions of runes return. Conditions: none. -/
import Derived.Test.YtdnmnfpcgbbplaaDoorBase
import Derived.Test.YtdnmnfpcgbbplaaDoorIdM
import Derived.Test.YtdnmnfpcgbbplaaDoorRows
import Derived.Lib.Strings
import Derived.Lib.Bytealg
import Derived.Lib.Walk
namespace Go.Proofs.YtdnmnfpcgbbplaaDoor
open Go.RowKit
set_option linter.unusedVariables false

end Go.Proofs.YtdnmnfpcgbbplaaDoor
