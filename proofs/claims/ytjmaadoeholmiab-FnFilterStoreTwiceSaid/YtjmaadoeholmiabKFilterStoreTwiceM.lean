/- What the functions compute. -/
import Derived.Test.YtjmaadoeholmiabFilterStoreTwiceLib1
import Derived.Test.YtjmaadoeholmiabFilterStoreTwiceEng1
set_option linter.unusedVariables false
set_option linter.unusedSimpArgs false
namespace Go.Vs



end Go.Vs
