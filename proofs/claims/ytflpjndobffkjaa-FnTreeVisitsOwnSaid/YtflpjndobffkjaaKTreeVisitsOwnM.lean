/- What the functions compute. -/
import Derived.Test.YtflpjndobffkjaaTreeVisitsOwnLib1
import Derived.Test.YtflpjndobffkjaaTreeVisitsOwnEng1
import Derived.Test.YtflpjndobffkjaaTreeVisitsOwnEng2
set_option linter.unusedVariables false
set_option linter.unusedSimpArgs false
namespace Go.Vs



end Go.Vs
