/- What the functions compute. -/
import Derived.Test.YtjcaokajkkkniacGreatExactRerankNearestLib1
import Derived.Test.YtjcaokajkkkniacGreatExactRerankNearestEng2
import Derived.Test.YtjcaokajkkkniacGreatExactRerankNearestSrt1
set_option linter.unusedVariables false
set_option linter.unusedSimpArgs false
namespace Go.Vs



end Go.Vs
