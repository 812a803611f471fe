/- What the functions compute. -/
import Derived.Test.YtjmaadoeholmiabFilterStoreBothLib1
import Derived.Test.YtjmaadoeholmiabFilterStoreBothEng1
set_option linter.unusedVariables false
set_option linter.unusedSimpArgs false
namespace Go.Vs



end Go.Vs
