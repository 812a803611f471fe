/- What the functions compute. -/
import Derived.Test.YtflpjndobffkjaaBuildTreeRadiusLib1
import Derived.Test.YtflpjndobffkjaaBuildTreeRadiusEng1
set_option linter.unusedVariables false
set_option linter.unusedSimpArgs false
namespace Go.Vs



end Go.Vs
