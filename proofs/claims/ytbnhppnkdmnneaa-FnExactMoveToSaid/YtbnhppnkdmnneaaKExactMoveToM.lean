/- What the functions compute. -/
import Derived.Test.YtbnhppnkdmnneaaExactMoveToLib1
import Derived.Test.YtbnhppnkdmnneaaExactMoveToEng1
set_option linter.unusedVariables false
set_option linter.unusedSimpArgs false
namespace Go.Vs



end Go.Vs
