/- What the functions compute. -/
import Derived.Test.YtdjjikmfkejdiabGreatTreeNearestLib1
import Derived.Test.YtdjjikmfkejdiabGreatTreeNearestEng2
import Derived.Test.YtdjjikmfkejdiabGreatTreeNearestSrt1
set_option linter.unusedVariables false
set_option linter.unusedSimpArgs false
namespace Go.Vs



end Go.Vs
