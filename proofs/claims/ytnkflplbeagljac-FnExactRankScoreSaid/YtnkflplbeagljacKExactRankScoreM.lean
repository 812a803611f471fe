/- What the functions compute. -/
import Derived.Test.YtnkflplbeagljacExactRankScoreLib1
import Derived.Test.YtnkflplbeagljacExactRankScoreEng1
set_option linter.unusedVariables false
set_option linter.unusedSimpArgs false
namespace Go.Vs



end Go.Vs
