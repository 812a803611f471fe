/- What the functions compute. -/
import Derived.Test.YtgokepoinohioacExactValidVectorLib1
import Derived.Test.YtgokepoinohioacExactValidVectorEng1
set_option linter.unusedVariables false
set_option linter.unusedSimpArgs false
namespace Go.Vs



end Go.Vs
