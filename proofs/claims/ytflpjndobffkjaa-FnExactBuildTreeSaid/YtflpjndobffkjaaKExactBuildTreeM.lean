/- What the functions compute. -/
import Derived.Test.YtflpjndobffkjaaExactBuildTreeLib1
import Derived.Test.YtflpjndobffkjaaExactBuildTreeEng1
import Derived.Test.YtflpjndobffkjaaExactBuildTreeEng2
set_option linter.unusedVariables false
set_option linter.unusedSimpArgs false
namespace Go.Vs



end Go.Vs
