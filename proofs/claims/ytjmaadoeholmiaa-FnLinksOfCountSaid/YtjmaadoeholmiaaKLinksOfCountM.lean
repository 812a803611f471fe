/- What the functions compute. -/
import Derived.Test.YtjmaadoeholmiaaLinksOfCountLib1
import Derived.Test.YtjmaadoeholmiaaLinksOfCountEng1
import Derived.Test.YtjmaadoeholmiaaLinksOfCountSrt1
import Derived.Test.YtjmaadoeholmiaaLinksOfCountEng2
set_option linter.unusedVariables false
set_option linter.unusedSimpArgs false
namespace Go.Vs



end Go.Vs
