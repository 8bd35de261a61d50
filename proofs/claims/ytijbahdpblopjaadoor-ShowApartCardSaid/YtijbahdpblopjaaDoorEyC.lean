/- Which expressions are the same, of the program's text: subs and all. Conditions: none. -/
import Derived.Test.YtijbahdpblopjaaDoorEyB
namespace Go.Proofs.YtijbahdpblopjaaDoor
open Go.RowKit Go.Sort
set_option linter.unusedVariables false
set_option linter.unusedSimpArgs false

end Go.Proofs.YtijbahdpblopjaaDoor
