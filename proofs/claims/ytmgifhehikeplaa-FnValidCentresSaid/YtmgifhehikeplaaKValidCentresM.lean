/- What the functions compute. -/
import Derived.Test.YtmgifhehikeplaaValidCentresLib1
import Derived.Test.YtmgifhehikeplaaValidCentresEng1
set_option linter.unusedVariables false
set_option linter.unusedSimpArgs false
namespace Go.Vs



end Go.Vs
