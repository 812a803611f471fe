/- What the functions compute. -/
import Derived.Test.YtdjjikmfkejdiaaWithinDistNearestLib1
import Derived.Test.YtdjjikmfkejdiaaWithinDistNearestEng2
import Derived.Test.YtdjjikmfkejdiaaWithinDistNearestSrt1
set_option linter.unusedVariables false
set_option linter.unusedSimpArgs false
namespace Go.Vs



end Go.Vs
