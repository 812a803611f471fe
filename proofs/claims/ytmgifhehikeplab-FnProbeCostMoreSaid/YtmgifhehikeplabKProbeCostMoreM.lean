/- What the functions compute. -/
import Derived.Test.YtmgifhehikeplabProbeCostMoreLib1
import Derived.Test.YtmgifhehikeplabProbeCostMoreEng1
import Derived.Test.YtmgifhehikeplabProbeCostMoreEng2
set_option linter.unusedVariables false
set_option linter.unusedSimpArgs false
namespace Go.Vs



end Go.Vs
