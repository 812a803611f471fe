/- What the functions compute. -/
import Derived.Test.YtdjjikmfkejdiaaClosestPairNearestLib1
import Derived.Test.YtdjjikmfkejdiaaClosestPairNearestEng2
import Derived.Test.YtdjjikmfkejdiaaClosestPairNearestSrt1
set_option linter.unusedVariables false
set_option linter.unusedSimpArgs false
namespace Go.Vs



end Go.Vs
