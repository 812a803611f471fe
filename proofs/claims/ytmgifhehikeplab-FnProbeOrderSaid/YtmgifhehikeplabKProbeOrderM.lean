/- What the functions compute. -/
import Derived.Test.YtmgifhehikeplabProbeOrderLib1
import Derived.Test.YtmgifhehikeplabProbeOrderEng1
set_option linter.unusedVariables false
set_option linter.unusedSimpArgs false
namespace Go.Vs



end Go.Vs
