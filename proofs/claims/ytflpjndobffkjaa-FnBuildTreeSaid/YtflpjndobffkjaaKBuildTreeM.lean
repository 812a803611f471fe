/- What the functions compute. -/
import Derived.Test.YtflpjndobffkjaaBuildTreeLib1
import Derived.Test.YtflpjndobffkjaaBuildTreeEng1
set_option linter.unusedVariables false
set_option linter.unusedSimpArgs false
namespace Go.Vs



end Go.Vs
