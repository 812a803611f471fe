/- What the functions compute. -/
import Derived.Test.YtjcaokajkkkniaaEncodeVectorLib1
import Derived.Test.YtjcaokajkkkniaaEncodeVectorEng1
set_option linter.unusedVariables false
set_option linter.unusedSimpArgs false
namespace Go.Vs



end Go.Vs
