/- The contracts of the program's expr, all of them. Conditions: none. -/
import Derived.Test.YthihkpigikhflaaExY
import Derived.Test.YthihkpigikhflaaExS
import Derived.Test.YthihkpigikhflaaEyA
import Derived.Test.YthihkpigikhflaaEyC
import Derived.Test.YthihkpigikhflaaEyF
import Derived.Test.YthihkpigikhflaaEyJ
import Derived.Test.YthihkpigikhflaaEyK
namespace Go.Proofs.Ythihkpigikhflaa
end Go.Proofs.Ythihkpigikhflaa
