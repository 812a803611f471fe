/- What the functions compute. -/
import Derived.Test.YtnkflplbeagljacDoorPageShortLib1
import Derived.Test.YtnkflplbeagljacDoorPageShortEng1
set_option linter.unusedVariables false
set_option linter.unusedSimpArgs false
namespace Go.Vs



end Go.Vs
