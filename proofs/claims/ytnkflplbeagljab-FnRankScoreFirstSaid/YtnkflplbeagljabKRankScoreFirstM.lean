/- What the functions compute. -/
import Derived.Test.YtnkflplbeagljabRankScoreFirstLib1
import Derived.Test.YtnkflplbeagljabRankScoreFirstEng1
set_option linter.unusedVariables false
set_option linter.unusedSimpArgs false
namespace Go.Vs



end Go.Vs
