/- What the functions compute. -/
import Derived.Test.YtdjjikmfkejdiabValidCentresLib1
import Derived.Test.YtdjjikmfkejdiabValidCentresEng1
set_option linter.unusedVariables false
set_option linter.unusedSimpArgs false
namespace Go.Vs



end Go.Vs
