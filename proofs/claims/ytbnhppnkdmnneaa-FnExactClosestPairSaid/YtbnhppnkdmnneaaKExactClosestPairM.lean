/- What the functions compute. -/
import Derived.Test.YtbnhppnkdmnneaaExactClosestPairLib1
import Derived.Test.YtbnhppnkdmnneaaExactClosestPairEng1
set_option linter.unusedVariables false
set_option linter.unusedSimpArgs false
namespace Go.Vs



end Go.Vs
