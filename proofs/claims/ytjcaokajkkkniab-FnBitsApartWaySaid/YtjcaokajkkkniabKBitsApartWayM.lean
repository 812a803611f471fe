/- What the functions compute. -/
import Derived.Test.YtjcaokajkkkniabBitsApartWayLib1
import Derived.Test.YtjcaokajkkkniabBitsApartWayEng1
set_option linter.unusedVariables false
set_option linter.unusedSimpArgs false
namespace Go.Vs



end Go.Vs
