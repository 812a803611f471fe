/- What the functions compute. -/
import Derived.Test.YtnkflplbeagljacExactMergeHitsLib1
import Derived.Test.YtnkflplbeagljacExactMergeHitsEng1
import Derived.Test.YtnkflplbeagljacExactMergeHitsSrt1
set_option linter.unusedVariables false
set_option linter.unusedSimpArgs false
namespace Go.Vs



end Go.Vs
