/- What the functions compute. -/
import Derived.Test.YtgokepoinohioacExactDistanceLib1
import Derived.Test.YtgokepoinohioacExactDistanceEng1
set_option linter.unusedVariables false
set_option linter.unusedSimpArgs false
namespace Go.Vs



end Go.Vs
