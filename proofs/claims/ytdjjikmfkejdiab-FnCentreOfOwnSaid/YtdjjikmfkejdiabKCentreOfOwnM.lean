/- What the functions compute. -/
import Derived.Test.YtdjjikmfkejdiabCentreOfOwnLib1
import Derived.Test.YtdjjikmfkejdiabCentreOfOwnEng1
set_option linter.unusedVariables false
set_option linter.unusedSimpArgs false
namespace Go.Vs



end Go.Vs
