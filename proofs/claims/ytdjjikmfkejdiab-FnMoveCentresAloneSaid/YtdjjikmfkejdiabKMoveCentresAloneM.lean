/- What the functions compute. -/
import Derived.Test.YtdjjikmfkejdiabMoveCentresAloneLib1
import Derived.Test.YtdjjikmfkejdiabMoveCentresAloneEng1
import Derived.Test.YtdjjikmfkejdiabMoveCentresAloneEng2
set_option linter.unusedVariables false
set_option linter.unusedSimpArgs false
namespace Go.Vs



end Go.Vs
