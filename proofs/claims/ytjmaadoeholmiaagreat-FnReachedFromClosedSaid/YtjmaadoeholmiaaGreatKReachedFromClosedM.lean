/- What the functions compute. -/
import Derived.Test.YtjmaadoeholmiaaGreatReachedFromClosedLib1
import Derived.Test.YtjmaadoeholmiaaGreatReachedFromClosedEng1
import Derived.Test.YtjmaadoeholmiaaGreatReachedFromClosedEng2
import Derived.Test.YtjmaadoeholmiaaGreatReachedFromClosedSrt1
set_option linter.unusedVariables false
set_option linter.unusedSimpArgs false
namespace Go.Vs



end Go.Vs
