/- What the functions compute. -/
import Derived.Test.YtbnhppnkdmnneaaExactProbeCostLib1
import Derived.Test.YtbnhppnkdmnneaaExactProbeCostEng1
import Derived.Test.YtbnhppnkdmnneaaExactProbeCostEng2
set_option linter.unusedVariables false
set_option linter.unusedSimpArgs false
namespace Go.Vs



end Go.Vs
