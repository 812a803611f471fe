/- What the functions compute. -/
import Derived.Test.YtmgifhehikeplaaMoveCentresAloneLib1
import Derived.Test.YtmgifhehikeplaaMoveCentresAloneEng1
import Derived.Test.YtmgifhehikeplaaMoveCentresAloneEng2
set_option linter.unusedVariables false
set_option linter.unusedSimpArgs false
namespace Go.Vs



end Go.Vs
