/- What the functions compute. -/
import Derived.Test.YtflpjndobffkjaaTreeVisitsMoreLib1
import Derived.Test.YtflpjndobffkjaaTreeVisitsMoreEng1
import Derived.Test.YtflpjndobffkjaaTreeVisitsMoreEng2
set_option linter.unusedVariables false
set_option linter.unusedSimpArgs false
namespace Go.Vs



end Go.Vs
