/- What the functions compute. -/
import Derived.Test.YtjmaadoeholmiaaMutualLinksLib1
import Derived.Test.YtjmaadoeholmiaaMutualLinksEng1
import Derived.Test.YtjmaadoeholmiaaMutualLinksSrt1
import Derived.Test.YtjmaadoeholmiaaMutualLinksEng2
set_option linter.unusedVariables false
set_option linter.unusedSimpArgs false
namespace Go.Vs



end Go.Vs
