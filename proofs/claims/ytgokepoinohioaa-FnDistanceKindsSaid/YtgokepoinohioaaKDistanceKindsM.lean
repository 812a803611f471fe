/- What the functions compute. -/
import Derived.Test.YtgokepoinohioaaDistanceKindsLib1
import Derived.Test.YtgokepoinohioaaDistanceKindsEng1
set_option linter.unusedVariables false
set_option linter.unusedSimpArgs false
namespace Go.Vs



end Go.Vs
