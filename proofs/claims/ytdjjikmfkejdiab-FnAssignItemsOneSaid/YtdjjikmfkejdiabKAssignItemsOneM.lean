/- What the functions compute. -/
import Derived.Test.YtdjjikmfkejdiabAssignItemsOneLib1
import Derived.Test.YtdjjikmfkejdiabAssignItemsOneEng1
set_option linter.unusedVariables false
set_option linter.unusedSimpArgs false
namespace Go.Vs



end Go.Vs
