/- What the functions compute. -/
import Derived.Test.YtdjjikmfkejdiabAssignItemsLib1
import Derived.Test.YtdjjikmfkejdiabAssignItemsEng1
set_option linter.unusedVariables false
set_option linter.unusedSimpArgs false
namespace Go.Vs



end Go.Vs
