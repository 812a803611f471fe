/- What the functions compute. -/
import Derived.Test.YtjmaadoeholmiacExactPassesLib1
import Derived.Test.YtjmaadoeholmiacExactPassesEng1
set_option linter.unusedVariables false
set_option linter.unusedSimpArgs false
namespace Go.Vs



end Go.Vs
