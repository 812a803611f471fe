/- What the functions compute. -/
import Derived.Test.YtdjjikmfkejdiaeExactProbeOrderLib1
import Derived.Test.YtdjjikmfkejdiaeExactProbeOrderEng1
import Derived.Test.YtdjjikmfkejdiaeExactProbeOrderEng2
set_option linter.unusedVariables false
set_option linter.unusedSimpArgs false
namespace Go.Vs



end Go.Vs
