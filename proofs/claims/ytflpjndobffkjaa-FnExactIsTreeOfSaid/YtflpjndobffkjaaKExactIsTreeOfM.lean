/- What the functions compute. -/
import Derived.Test.YtflpjndobffkjaaExactIsTreeOfLib1
import Derived.Test.YtflpjndobffkjaaExactIsTreeOfEng2
set_option linter.unusedVariables false
set_option linter.unusedSimpArgs false
namespace Go.Vs



end Go.Vs
