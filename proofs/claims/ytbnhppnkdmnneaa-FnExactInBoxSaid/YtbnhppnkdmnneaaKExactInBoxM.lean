/- What the functions compute. -/
import Derived.Test.YtbnhppnkdmnneaaExactInBoxLib1
import Derived.Test.YtbnhppnkdmnneaaExactInBoxEng1
set_option linter.unusedVariables false
set_option linter.unusedSimpArgs false
namespace Go.Vs



end Go.Vs
