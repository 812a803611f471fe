/- What the functions compute. -/
import Derived.Test.YtdjjikmfkejdiacProbeOrderLib1
import Derived.Test.YtdjjikmfkejdiacProbeOrderEng1
set_option linter.unusedVariables false
set_option linter.unusedSimpArgs false
namespace Go.Vs



end Go.Vs
