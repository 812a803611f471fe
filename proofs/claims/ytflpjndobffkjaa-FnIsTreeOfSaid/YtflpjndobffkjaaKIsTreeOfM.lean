/- What the functions compute. -/
import Derived.Test.YtflpjndobffkjaaIsTreeOfLib1
import Derived.Test.YtflpjndobffkjaaIsTreeOfEng1
set_option linter.unusedVariables false
set_option linter.unusedSimpArgs false
namespace Go.Vs



end Go.Vs
