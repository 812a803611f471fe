/- What the functions compute. -/
import Derived.Test.YtnkflplbeagljacCheckOfRangeLib1
import Derived.Test.YtnkflplbeagljacCheckOfRangeEng1
set_option linter.unusedVariables false
set_option linter.unusedSimpArgs false
namespace Go.Vs



end Go.Vs
