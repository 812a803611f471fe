/- What the functions compute. -/
import Derived.Test.YtdjjikmfkejdiabSettleCentresLib1
import Derived.Test.YtdjjikmfkejdiabSettleCentresEng1
import Derived.Test.YtdjjikmfkejdiabSettleCentresEng2
set_option linter.unusedVariables false
set_option linter.unusedSimpArgs false
namespace Go.Vs



end Go.Vs
