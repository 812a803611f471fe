/- What the functions compute. -/
import Derived.Test.YtjcaokajkkkniabHashOfPlaneLib1
import Derived.Test.YtjcaokajkkkniabHashOfPlaneEng1
set_option linter.unusedVariables false
set_option linter.unusedSimpArgs false
namespace Go.Vs



end Go.Vs
