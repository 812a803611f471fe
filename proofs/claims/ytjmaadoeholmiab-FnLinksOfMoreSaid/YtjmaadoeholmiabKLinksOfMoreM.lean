/- What the functions compute. -/
import Derived.Test.YtjmaadoeholmiabLinksOfMoreLib1
import Derived.Test.YtjmaadoeholmiabLinksOfMoreEng1
import Derived.Test.YtjmaadoeholmiabLinksOfMoreSrt1
import Derived.Test.YtjmaadoeholmiabLinksOfMoreEng2
set_option linter.unusedVariables false
set_option linter.unusedSimpArgs false
namespace Go.Vs



end Go.Vs
