/- What the functions compute. -/
import Derived.Test.YtflpjndobffkjaaExactTreeVisitsLib1
import Derived.Test.YtflpjndobffkjaaExactTreeVisitsEng2
set_option linter.unusedVariables false
set_option linter.unusedSimpArgs false
namespace Go.Vs



end Go.Vs
