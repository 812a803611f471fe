/- What the functions compute. -/
import Derived.Test.YtjcaokajkkkniabExactEncodeVectorLib1
import Derived.Test.YtjcaokajkkkniabExactEncodeVectorEng1
set_option linter.unusedVariables false
set_option linter.unusedSimpArgs false
namespace Go.Vs



end Go.Vs
