/- What the functions compute. -/
import Derived.Test.YtnkflplbeagljacExactCheckOfLib1
import Derived.Test.YtnkflplbeagljacExactCheckOfEng1
set_option linter.unusedVariables false
set_option linter.unusedSimpArgs false
namespace Go.Vs



end Go.Vs
