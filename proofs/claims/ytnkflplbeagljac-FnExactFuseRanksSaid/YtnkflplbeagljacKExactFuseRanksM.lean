/- What the functions compute. -/
import Derived.Test.YtnkflplbeagljacExactFuseRanksLib1
import Derived.Test.YtnkflplbeagljacExactFuseRanksEng2
import Derived.Test.YtnkflplbeagljacExactFuseRanksSrt1
set_option linter.unusedVariables false
set_option linter.unusedSimpArgs false
namespace Go.Vs



end Go.Vs
