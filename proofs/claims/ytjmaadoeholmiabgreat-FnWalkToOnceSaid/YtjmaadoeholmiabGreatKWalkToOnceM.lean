/- What the functions compute. -/
import Derived.Test.YtjmaadoeholmiabGreatWalkToOnceLib1
import Derived.Test.YtjmaadoeholmiabGreatWalkToOnceEng2
import Derived.Test.YtjmaadoeholmiabGreatWalkToOnceSrt1
set_option linter.unusedVariables false
set_option linter.unusedSimpArgs false
namespace Go.Vs



end Go.Vs
