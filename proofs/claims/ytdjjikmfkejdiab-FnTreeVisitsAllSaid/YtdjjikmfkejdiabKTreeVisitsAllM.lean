/- What the functions compute. -/
import Derived.Test.YtdjjikmfkejdiabTreeVisitsAllLib1
import Derived.Test.YtdjjikmfkejdiabTreeVisitsAllEng1
import Derived.Test.YtdjjikmfkejdiabTreeVisitsAllSrt1
import Derived.Test.YtdjjikmfkejdiabTreeVisitsAllEng2
set_option linter.unusedVariables false
set_option linter.unusedSimpArgs false
namespace Go.Vs



end Go.Vs
