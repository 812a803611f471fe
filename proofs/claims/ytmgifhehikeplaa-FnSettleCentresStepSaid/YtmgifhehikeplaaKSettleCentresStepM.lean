/- What the functions compute. -/
import Derived.Test.YtmgifhehikeplaaSettleCentresStepLib1
import Derived.Test.YtmgifhehikeplaaSettleCentresStepEng1
import Derived.Test.YtmgifhehikeplaaSettleCentresStepEng2
set_option linter.unusedVariables false
set_option linter.unusedSimpArgs false
namespace Go.Vs



end Go.Vs
