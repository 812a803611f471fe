/- What the functions compute. -/
import Derived.Test.YtjcaokajkkkniaaValidPlanesLib1
import Derived.Test.YtjcaokajkkkniaaValidPlanesEng1
set_option linter.unusedVariables false
set_option linter.unusedSimpArgs false
namespace Go.Vs



end Go.Vs
