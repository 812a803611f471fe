/- What the functions compute. -/
import Derived.Test.YtjmaadoeholmiaaMutualLinksClosestLib1
import Derived.Test.YtjmaadoeholmiaaMutualLinksClosestEng1
import Derived.Test.YtjmaadoeholmiaaMutualLinksClosestSrt1
import Derived.Test.YtjmaadoeholmiaaMutualLinksClosestEng2
set_option linter.unusedVariables false
set_option linter.unusedSimpArgs false
namespace Go.Vs



end Go.Vs
