/- What the functions compute. -/
import Derived.Test.YtmgifhehikeplaaSettleCentresLib1
import Derived.Test.YtmgifhehikeplaaSettleCentresEng1
import Derived.Test.YtmgifhehikeplaaSettleCentresEng2
set_option linter.unusedVariables false
set_option linter.unusedSimpArgs false
namespace Go.Vs



end Go.Vs
