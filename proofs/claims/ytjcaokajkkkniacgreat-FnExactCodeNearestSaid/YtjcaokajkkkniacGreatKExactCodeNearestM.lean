/- What the functions compute. -/
import Derived.Test.YtjcaokajkkkniacGreatExactCodeNearestLib1
import Derived.Test.YtjcaokajkkkniacGreatExactCodeNearestEng2
import Derived.Test.YtjcaokajkkkniacGreatExactCodeNearestSrt1
set_option linter.unusedVariables false
set_option linter.unusedSimpArgs false
namespace Go.Vs



end Go.Vs
