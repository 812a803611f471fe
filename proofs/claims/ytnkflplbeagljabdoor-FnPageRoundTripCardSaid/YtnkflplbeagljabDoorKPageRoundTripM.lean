/- What the functions compute. -/
import Derived.Test.YtnkflplbeagljabDoorPageRoundTripLib1
import Derived.Test.YtnkflplbeagljabDoorPageRoundTripEng1
set_option linter.unusedVariables false
set_option linter.unusedSimpArgs false
namespace Go.Vs



end Go.Vs
