/- What the functions compute. -/
import Derived.Test.YtnkflplbeagljacDoorPageEmptyLib1
import Derived.Test.YtnkflplbeagljacDoorPageEmptyEng1
set_option linter.unusedVariables false
set_option linter.unusedSimpArgs false
namespace Go.Vs



end Go.Vs
