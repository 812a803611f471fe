/- What the functions compute. -/
import Derived.Test.YtgokepoinohioaaDistanceLib1
import Derived.Test.YtgokepoinohioaaDistanceEng1
set_option linter.unusedVariables false
set_option linter.unusedSimpArgs false
namespace Go.Vs



end Go.Vs
