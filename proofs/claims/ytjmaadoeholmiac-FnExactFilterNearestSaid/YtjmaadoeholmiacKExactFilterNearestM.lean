/- What the functions compute. -/
import Derived.Test.YtjmaadoeholmiacExactFilterNearestLib1
import Derived.Test.YtjmaadoeholmiacExactFilterNearestEng2
import Derived.Test.YtjmaadoeholmiacExactFilterNearestSrt1
set_option linter.unusedVariables false
set_option linter.unusedSimpArgs false
namespace Go.Vs



end Go.Vs
