/- What the functions compute. -/
import Derived.Test.YtbnhppnkdmnneaaExactSettleCentresLib1
import Derived.Test.YtbnhppnkdmnneaaExactSettleCentresEng1
import Derived.Test.YtbnhppnkdmnneaaExactSettleCentresEng2
set_option linter.unusedVariables false
set_option linter.unusedSimpArgs false
namespace Go.Vs



end Go.Vs
