/- What the functions compute. -/
import Derived.Test.YtjmaadoeholmiabGreatFilterNearestLib1
import Derived.Test.YtjmaadoeholmiabGreatFilterNearestEng2
import Derived.Test.YtjmaadoeholmiabGreatFilterNearestSrt1
set_option linter.unusedVariables false
set_option linter.unusedSimpArgs false
namespace Go.Vs



end Go.Vs
