/- What the functions compute. -/
import Derived.Test.YtdjjikmfkejdiaeExactCentreOfLib1
import Derived.Test.YtdjjikmfkejdiaeExactCentreOfEng1
set_option linter.unusedVariables false
set_option linter.unusedSimpArgs false
namespace Go.Vs



end Go.Vs
