/- What the functions compute. -/
import Derived.Test.YtbbddfckcpfoaaaGreatRerankNearestLib1
import Derived.Test.YtbbddfckcpfoaaaGreatRerankNearestEng2
import Derived.Test.YtbbddfckcpfoaaaGreatRerankNearestSrt1
set_option linter.unusedVariables false
set_option linter.unusedSimpArgs false
namespace Go.Vs



end Go.Vs
