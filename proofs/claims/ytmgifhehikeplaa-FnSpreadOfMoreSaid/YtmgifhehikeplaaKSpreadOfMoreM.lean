/- What the functions compute. -/
import Derived.Test.YtmgifhehikeplaaSpreadOfMoreLib1
import Derived.Test.YtmgifhehikeplaaSpreadOfMoreEng1
set_option linter.unusedVariables false
set_option linter.unusedSimpArgs false
namespace Go.Vs



end Go.Vs
