/- What the functions compute. -/
import Derived.Test.YtnkflplbeagljabFuseRanksSelfLib1
import Derived.Test.YtnkflplbeagljabFuseRanksSelfEng2
import Derived.Test.YtnkflplbeagljabFuseRanksSelfSrt1
set_option linter.unusedVariables false
set_option linter.unusedSimpArgs false
namespace Go.Vs



end Go.Vs
