/- What the functions compute. -/
import Derived.Test.YtnkflplbeagljabDoorPageCanonicalLib1
import Derived.Test.YtnkflplbeagljabDoorPageCanonicalEng1
set_option linter.unusedVariables false
set_option linter.unusedSimpArgs false
namespace Go.Vs



end Go.Vs
