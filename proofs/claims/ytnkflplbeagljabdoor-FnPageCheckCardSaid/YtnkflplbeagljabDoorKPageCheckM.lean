/- What the functions compute. -/
import Derived.Test.YtnkflplbeagljabDoorPageCheckLib1
import Derived.Test.YtnkflplbeagljabDoorPageCheckEng1
set_option linter.unusedVariables false
set_option linter.unusedSimpArgs false
namespace Go.Vs



end Go.Vs
