/- What the functions compute. -/
import Derived.Test.YtjmaadoeholmiabGreatFilterNearestOpenLib1
import Derived.Test.YtjmaadoeholmiabGreatFilterNearestOpenEng2
import Derived.Test.YtjmaadoeholmiabGreatFilterNearestOpenSrt1
set_option linter.unusedVariables false
set_option linter.unusedSimpArgs false
namespace Go.Vs



end Go.Vs
