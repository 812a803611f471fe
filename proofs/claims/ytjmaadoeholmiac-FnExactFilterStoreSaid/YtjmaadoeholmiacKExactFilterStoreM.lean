/- What the functions compute. -/
import Derived.Test.YtjmaadoeholmiacExactFilterStoreLib1
import Derived.Test.YtjmaadoeholmiacExactFilterStoreEng1
import Derived.Test.YtjmaadoeholmiacExactFilterStoreEng2
set_option linter.unusedVariables false
set_option linter.unusedSimpArgs false
namespace Go.Vs



end Go.Vs
