/- What the functions compute. -/
import Derived.Test.YtmgifhehikeplabGreatProbeNearestAllEng1
import Derived.Test.YtmgifhehikeplabGreatProbeNearestAllLib1
import Derived.Test.YtmgifhehikeplabGreatProbeNearestAllEng2
set_option linter.unusedVariables false
set_option linter.unusedSimpArgs false
namespace Go.Vs



end Go.Vs
