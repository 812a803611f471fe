/- What the functions compute. -/
import Derived.Test.YtgokepoinohioacExactBoundsOfLib1
import Derived.Test.YtgokepoinohioacExactBoundsOfEng1
set_option linter.unusedVariables false
set_option linter.unusedSimpArgs false
namespace Go.Vs



end Go.Vs
