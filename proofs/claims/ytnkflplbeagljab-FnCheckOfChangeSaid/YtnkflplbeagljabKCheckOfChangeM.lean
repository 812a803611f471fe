/- What the functions compute. -/
import Derived.Test.YtnkflplbeagljabCheckOfChangeLib1
import Derived.Test.YtnkflplbeagljabCheckOfChangeEng1
set_option linter.unusedVariables false
set_option linter.unusedSimpArgs false
namespace Go.Vs



end Go.Vs
