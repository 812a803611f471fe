/- What the functions compute. -/
import Derived.Test.YtbnhppnkdmnneaaExactMoveCentresLib1
import Derived.Test.YtbnhppnkdmnneaaExactMoveCentresEng1
import Derived.Test.YtbnhppnkdmnneaaExactMoveCentresEng2
set_option linter.unusedVariables false
set_option linter.unusedSimpArgs false
namespace Go.Vs



end Go.Vs
