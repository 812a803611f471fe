/- What the functions compute. -/
import Derived.Test.YtjmaadoeholmiaaValidFilterLib1
import Derived.Test.YtjmaadoeholmiaaValidFilterEng1
set_option linter.unusedVariables false
set_option linter.unusedSimpArgs false
namespace Go.Vs



end Go.Vs
