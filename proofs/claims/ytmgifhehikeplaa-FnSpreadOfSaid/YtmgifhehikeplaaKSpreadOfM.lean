/- What the functions compute. -/
import Derived.Test.YtmgifhehikeplaaSpreadOfLib1
import Derived.Test.YtmgifhehikeplaaSpreadOfEng1
set_option linter.unusedVariables false
set_option linter.unusedSimpArgs false
namespace Go.Vs



end Go.Vs
