/- What the functions compute. -/
import Derived.Test.YtmgifhehikeplaaAssignItemsLib1
import Derived.Test.YtmgifhehikeplaaAssignItemsEng1
set_option linter.unusedVariables false
set_option linter.unusedSimpArgs false
namespace Go.Vs



end Go.Vs
