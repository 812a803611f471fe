/- What the functions compute. -/
import Derived.Test.YtmgifhehikeplaaMoveCentresLib1
import Derived.Test.YtmgifhehikeplaaMoveCentresEng1
import Derived.Test.YtmgifhehikeplaaMoveCentresEng2
set_option linter.unusedVariables false
set_option linter.unusedSimpArgs false
namespace Go.Vs



end Go.Vs
