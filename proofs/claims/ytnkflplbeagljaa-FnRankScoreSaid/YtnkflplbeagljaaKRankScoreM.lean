/- What the functions compute. -/
import Derived.Test.YtnkflplbeagljaaRankScoreLib1
import Derived.Test.YtnkflplbeagljaaRankScoreEng1
set_option linter.unusedVariables false
set_option linter.unusedSimpArgs false
namespace Go.Vs



end Go.Vs
