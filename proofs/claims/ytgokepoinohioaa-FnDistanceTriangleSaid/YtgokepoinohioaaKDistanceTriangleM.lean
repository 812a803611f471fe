/- What the functions compute. -/
import Derived.Test.YtgokepoinohioaaDistanceTriangleLib1
import Derived.Test.YtgokepoinohioaaDistanceTriangleEng1
set_option linter.unusedVariables false
set_option linter.unusedSimpArgs false
namespace Go.Vs



end Go.Vs
