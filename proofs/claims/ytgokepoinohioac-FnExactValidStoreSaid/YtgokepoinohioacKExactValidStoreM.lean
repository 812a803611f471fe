/- What the functions compute. -/
import Derived.Test.YtgokepoinohioacExactValidStoreLib1
import Derived.Test.YtgokepoinohioacExactValidStoreEng1
set_option linter.unusedVariables false
set_option linter.unusedSimpArgs false
namespace Go.Vs



end Go.Vs
