/- What the functions compute. -/
import Derived.Test.YtdjjikmfkejdiabGreatTreeVisitsLib1
import Derived.Test.YtdjjikmfkejdiabGreatTreeVisitsEng2
import Derived.Test.YtdjjikmfkejdiabGreatTreeVisitsSrt1
set_option linter.unusedVariables false
set_option linter.unusedSimpArgs false
namespace Go.Vs



end Go.Vs
