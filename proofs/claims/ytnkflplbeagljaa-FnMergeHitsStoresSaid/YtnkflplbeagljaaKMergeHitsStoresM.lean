/- What the functions compute. -/
import Derived.Test.YtnkflplbeagljaaMergeHitsStoresLib1
import Derived.Test.YtnkflplbeagljaaMergeHitsStoresEng2
import Derived.Test.YtnkflplbeagljaaMergeHitsStoresSrt1
set_option linter.unusedVariables false
set_option linter.unusedSimpArgs false
namespace Go.Vs



end Go.Vs
