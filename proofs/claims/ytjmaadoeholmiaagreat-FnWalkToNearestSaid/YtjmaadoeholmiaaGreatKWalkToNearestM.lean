/- What the functions compute. -/
import Derived.Test.YtjmaadoeholmiaaGreatWalkToNearestLib1
import Derived.Test.YtjmaadoeholmiaaGreatWalkToNearestEng2
import Derived.Test.YtjmaadoeholmiaaGreatWalkToNearestSrt1
set_option linter.unusedVariables false
set_option linter.unusedSimpArgs false
namespace Go.Vs



end Go.Vs
