/- What the functions compute. -/
import Derived.Test.YtmgifhehikeplabProbeOrderMoreLib1
import Derived.Test.YtmgifhehikeplabProbeOrderMoreEng1
set_option linter.unusedVariables false
set_option linter.unusedSimpArgs false
namespace Go.Vs



end Go.Vs
