/- What the functions compute. -/
import Derived.Test.YtjcaokajkkkniacExactBitsApartLib1
import Derived.Test.YtjcaokajkkkniacExactBitsApartEng1
set_option linter.unusedVariables false
set_option linter.unusedSimpArgs false
namespace Go.Vs



end Go.Vs
