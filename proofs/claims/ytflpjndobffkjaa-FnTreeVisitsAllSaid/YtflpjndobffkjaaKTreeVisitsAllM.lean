/- What the functions compute. -/
import Derived.Test.YtflpjndobffkjaaTreeVisitsAllLib1
import Derived.Test.YtflpjndobffkjaaTreeVisitsAllEng1
import Derived.Test.YtflpjndobffkjaaTreeVisitsAllEng2
set_option linter.unusedVariables false
set_option linter.unusedSimpArgs false
namespace Go.Vs



end Go.Vs
