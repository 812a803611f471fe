/- What the functions compute. -/
import Derived.Test.YtnkflplbeagljaaMergeHitsOrderLib1
import Derived.Test.YtnkflplbeagljaaMergeHitsOrderEng1
import Derived.Test.YtnkflplbeagljaaMergeHitsOrderEng2
import Derived.Test.YtnkflplbeagljaaMergeHitsOrderSrt1
set_option linter.unusedVariables false
set_option linter.unusedSimpArgs false
namespace Go.Vs



end Go.Vs
