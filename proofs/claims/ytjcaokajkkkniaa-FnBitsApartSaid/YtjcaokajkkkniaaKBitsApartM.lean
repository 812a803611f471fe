/- What the functions compute. -/
import Derived.Test.YtjcaokajkkkniaaBitsApartLib1
import Derived.Test.YtjcaokajkkkniaaBitsApartEng1
set_option linter.unusedVariables false
set_option linter.unusedSimpArgs false
namespace Go.Vs



end Go.Vs
