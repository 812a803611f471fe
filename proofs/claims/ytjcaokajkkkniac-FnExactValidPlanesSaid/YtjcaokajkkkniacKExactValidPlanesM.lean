/- What the functions compute. -/
import Derived.Test.YtjcaokajkkkniacExactValidPlanesLib1
import Derived.Test.YtjcaokajkkkniacExactValidPlanesEng1
set_option linter.unusedVariables false
set_option linter.unusedSimpArgs false
namespace Go.Vs



end Go.Vs
