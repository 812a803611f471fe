/- What the functions compute. -/
import Derived.Test.YtjcaokajkkkniaaDecodeVectorLib1
import Derived.Test.YtjcaokajkkkniaaDecodeVectorEng1
set_option linter.unusedVariables false
set_option linter.unusedSimpArgs false
namespace Go.Vs



end Go.Vs
