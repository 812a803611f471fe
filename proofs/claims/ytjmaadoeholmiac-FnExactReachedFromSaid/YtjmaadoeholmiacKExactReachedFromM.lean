/- What the functions compute. -/
import Derived.Test.YtjmaadoeholmiacExactReachedFromLib1
import Derived.Test.YtjmaadoeholmiacExactReachedFromEng2
import Derived.Test.YtjmaadoeholmiacExactReachedFromSrt1
set_option linter.unusedVariables false
set_option linter.unusedSimpArgs false
namespace Go.Vs



end Go.Vs
