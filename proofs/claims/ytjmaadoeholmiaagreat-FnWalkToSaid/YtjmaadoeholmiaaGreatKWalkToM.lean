/- What the functions compute. -/
import Derived.Test.YtjmaadoeholmiaaGreatWalkToLib1
import Derived.Test.YtjmaadoeholmiaaGreatWalkToEng2
import Derived.Test.YtjmaadoeholmiaaGreatWalkToSrt1
set_option linter.unusedVariables false
set_option linter.unusedSimpArgs false
namespace Go.Vs



end Go.Vs
