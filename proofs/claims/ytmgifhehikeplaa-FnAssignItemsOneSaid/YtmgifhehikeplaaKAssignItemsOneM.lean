/- What the functions compute. -/
import Derived.Test.YtmgifhehikeplaaAssignItemsOneLib1
import Derived.Test.YtmgifhehikeplaaAssignItemsOneEng1
set_option linter.unusedVariables false
set_option linter.unusedSimpArgs false
namespace Go.Vs



end Go.Vs
