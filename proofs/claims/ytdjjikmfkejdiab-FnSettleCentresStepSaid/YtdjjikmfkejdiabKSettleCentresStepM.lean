/- What the functions compute. -/
import Derived.Test.YtdjjikmfkejdiabSettleCentresStepLib1
import Derived.Test.YtdjjikmfkejdiabSettleCentresStepEng1
import Derived.Test.YtdjjikmfkejdiabSettleCentresStepEng2
set_option linter.unusedVariables false
set_option linter.unusedSimpArgs false
namespace Go.Vs



end Go.Vs
