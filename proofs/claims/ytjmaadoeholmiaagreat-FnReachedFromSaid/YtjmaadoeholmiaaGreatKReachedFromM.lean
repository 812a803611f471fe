/- What the functions compute. -/
import Derived.Test.YtjmaadoeholmiaaGreatReachedFromLib1
import Derived.Test.YtjmaadoeholmiaaGreatReachedFromEng2
import Derived.Test.YtjmaadoeholmiaaGreatReachedFromSrt1
set_option linter.unusedVariables false
set_option linter.unusedSimpArgs false
namespace Go.Vs



end Go.Vs
