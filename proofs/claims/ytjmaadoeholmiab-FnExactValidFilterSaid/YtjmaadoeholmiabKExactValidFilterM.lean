/- What the functions compute. -/
import Derived.Test.YtjmaadoeholmiabExactValidFilterLib1
import Derived.Test.YtjmaadoeholmiabExactValidFilterEng1
set_option linter.unusedVariables false
set_option linter.unusedSimpArgs false
namespace Go.Vs



end Go.Vs
