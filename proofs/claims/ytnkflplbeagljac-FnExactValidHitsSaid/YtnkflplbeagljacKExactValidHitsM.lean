/- What the functions compute. -/
import Derived.Test.YtnkflplbeagljacExactValidHitsLib1
import Derived.Test.YtnkflplbeagljacExactValidHitsEng1
set_option linter.unusedVariables false
set_option linter.unusedSimpArgs false
namespace Go.Vs



end Go.Vs
