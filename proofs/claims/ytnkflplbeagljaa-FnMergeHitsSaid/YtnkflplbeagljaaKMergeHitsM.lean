/- What the functions compute. -/
import Derived.Test.YtnkflplbeagljaaMergeHitsLib1
import Derived.Test.YtnkflplbeagljaaMergeHitsEng1
import Derived.Test.YtnkflplbeagljaaMergeHitsSrt1
set_option linter.unusedVariables false
set_option linter.unusedSimpArgs false
namespace Go.Vs



end Go.Vs
