/- What the functions compute. -/
import Derived.Test.YtjmaadoeholmiabMutualLinksMoreLib1
import Derived.Test.YtjmaadoeholmiabMutualLinksMoreEng1
import Derived.Test.YtjmaadoeholmiabMutualLinksMoreSrt1
import Derived.Test.YtjmaadoeholmiabMutualLinksMoreEng2
set_option linter.unusedVariables false
set_option linter.unusedSimpArgs false
namespace Go.Vs



end Go.Vs
