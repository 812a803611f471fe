/- What the functions compute. -/
import Derived.Test.YtgokepoinohioacExactGetItemLib1
import Derived.Test.YtgokepoinohioacExactGetItemEng1
set_option linter.unusedVariables false
set_option linter.unusedSimpArgs false
namespace Go.Vs



end Go.Vs
