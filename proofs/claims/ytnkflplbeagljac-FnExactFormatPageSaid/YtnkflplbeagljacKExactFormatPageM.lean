/- What the functions compute. -/
import Derived.Test.YtnkflplbeagljacExactFormatPageLib1
import Derived.Test.YtnkflplbeagljacExactFormatPageEng1
set_option linter.unusedVariables false
set_option linter.unusedSimpArgs false
namespace Go.Vs



end Go.Vs
