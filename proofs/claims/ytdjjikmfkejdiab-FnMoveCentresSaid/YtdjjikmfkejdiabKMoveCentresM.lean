/- What the functions compute. -/
import Derived.Test.YtdjjikmfkejdiabMoveCentresLib1
import Derived.Test.YtdjjikmfkejdiabMoveCentresEng1
import Derived.Test.YtdjjikmfkejdiabMoveCentresEng2
set_option linter.unusedVariables false
set_option linter.unusedSimpArgs false
namespace Go.Vs



end Go.Vs
