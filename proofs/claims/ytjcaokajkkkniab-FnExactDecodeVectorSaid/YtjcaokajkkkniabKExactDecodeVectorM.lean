/- What the functions compute. -/
import Derived.Test.YtjcaokajkkkniabExactDecodeVectorLib1
import Derived.Test.YtjcaokajkkkniabExactDecodeVectorEng1
import Derived.Test.YtjcaokajkkkniabExactDecodeVectorEng2
set_option linter.unusedVariables false
set_option linter.unusedSimpArgs false
namespace Go.Vs



end Go.Vs
