/- What the functions compute. -/
import Derived.Test.YtdjjikmfkejdiaaClosestPairLib1
import Derived.Test.YtdjjikmfkejdiaaClosestPairEng1
set_option linter.unusedVariables false
set_option linter.unusedSimpArgs false
namespace Go.Vs



end Go.Vs
