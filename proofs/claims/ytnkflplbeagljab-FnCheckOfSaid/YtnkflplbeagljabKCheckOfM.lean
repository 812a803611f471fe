/- What the functions compute. -/
import Derived.Test.YtnkflplbeagljabCheckOfLib1
import Derived.Test.YtnkflplbeagljabCheckOfEng1
set_option linter.unusedVariables false
set_option linter.unusedSimpArgs false
namespace Go.Vs



end Go.Vs
