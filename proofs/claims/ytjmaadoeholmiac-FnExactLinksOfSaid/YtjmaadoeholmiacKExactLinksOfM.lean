/- What the functions compute. -/
import Derived.Test.YtjmaadoeholmiacExactLinksOfLib1
import Derived.Test.YtjmaadoeholmiacExactLinksOfEng1
import Derived.Test.YtjmaadoeholmiacExactLinksOfEng2
import Derived.Test.YtjmaadoeholmiacExactLinksOfSrt1
set_option linter.unusedVariables false
set_option linter.unusedSimpArgs false
namespace Go.Vs



end Go.Vs
