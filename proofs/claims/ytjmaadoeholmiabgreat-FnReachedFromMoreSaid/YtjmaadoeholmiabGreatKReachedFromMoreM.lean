/- What the functions compute. -/
import Derived.Test.YtjmaadoeholmiabGreatReachedFromMoreLib1
import Derived.Test.YtjmaadoeholmiabGreatReachedFromMoreEng1
import Derived.Test.YtjmaadoeholmiabGreatReachedFromMoreEng2
import Derived.Test.YtjmaadoeholmiabGreatReachedFromMoreSrt1
set_option linter.unusedVariables false
set_option linter.unusedSimpArgs false
namespace Go.Vs



end Go.Vs
