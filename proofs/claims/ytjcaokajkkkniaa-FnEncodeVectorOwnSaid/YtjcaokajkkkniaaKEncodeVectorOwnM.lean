/- What the functions compute. -/
import Derived.Test.YtjcaokajkkkniaaEncodeVectorOwnLib1
import Derived.Test.YtjcaokajkkkniaaEncodeVectorOwnEng1
set_option linter.unusedVariables false
set_option linter.unusedSimpArgs false
namespace Go.Vs



end Go.Vs
