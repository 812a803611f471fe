/- What the functions compute. -/
import Derived.Test.YtjcaokajkkkniacGreatExactHashNearestLib1
import Derived.Test.YtjcaokajkkkniacGreatExactHashNearestEng2
import Derived.Test.YtjcaokajkkkniacGreatExactHashNearestSrt1
set_option linter.unusedVariables false
set_option linter.unusedSimpArgs false
namespace Go.Vs



end Go.Vs
