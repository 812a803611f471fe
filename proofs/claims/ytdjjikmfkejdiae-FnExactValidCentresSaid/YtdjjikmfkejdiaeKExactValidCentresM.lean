/- What the functions compute. -/
import Derived.Test.YtdjjikmfkejdiaeExactValidCentresLib1
import Derived.Test.YtdjjikmfkejdiaeExactValidCentresEng1
set_option linter.unusedVariables false
set_option linter.unusedSimpArgs false
namespace Go.Vs



end Go.Vs
