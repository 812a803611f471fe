/- What the functions compute. -/
import Derived.Test.YtjmaadoeholmiaaGreatWalkToEndLib1
import Derived.Test.YtjmaadoeholmiaaGreatWalkToEndEng2
import Derived.Test.YtjmaadoeholmiaaGreatWalkToEndSrt1
set_option linter.unusedVariables false
set_option linter.unusedSimpArgs false
namespace Go.Vs



end Go.Vs
