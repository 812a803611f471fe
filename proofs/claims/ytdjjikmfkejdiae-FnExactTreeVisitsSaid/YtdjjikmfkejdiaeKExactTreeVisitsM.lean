/- What the functions compute. -/
import Derived.Test.YtdjjikmfkejdiaeExactTreeVisitsLib1
import Derived.Test.YtdjjikmfkejdiaeExactTreeVisitsEng2
import Derived.Test.YtdjjikmfkejdiaeExactTreeVisitsSrt1
set_option linter.unusedVariables false
set_option linter.unusedSimpArgs false
namespace Go.Vs



end Go.Vs
