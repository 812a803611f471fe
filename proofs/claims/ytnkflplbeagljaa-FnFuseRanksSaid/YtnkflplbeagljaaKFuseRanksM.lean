/- What the functions compute. -/
import Derived.Test.YtnkflplbeagljaaFuseRanksLib1
import Derived.Test.YtnkflplbeagljaaFuseRanksEng2
import Derived.Test.YtnkflplbeagljaaFuseRanksSrt1
set_option linter.unusedVariables false
set_option linter.unusedSimpArgs false
namespace Go.Vs



end Go.Vs
