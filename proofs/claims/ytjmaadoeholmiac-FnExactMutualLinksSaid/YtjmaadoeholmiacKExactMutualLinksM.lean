/- What the functions compute. -/
import Derived.Test.YtjmaadoeholmiacExactMutualLinksLib1
import Derived.Test.YtjmaadoeholmiacExactMutualLinksEng1
import Derived.Test.YtjmaadoeholmiacExactMutualLinksEng2
import Derived.Test.YtjmaadoeholmiacExactMutualLinksSrt1
set_option linter.unusedVariables false
set_option linter.unusedSimpArgs false
namespace Go.Vs



end Go.Vs
