/- What the functions compute. -/
import Derived.Test.YtjmaadoeholmiabFilterStoreLib1
import Derived.Test.YtjmaadoeholmiabFilterStoreEng1
set_option linter.unusedVariables false
set_option linter.unusedSimpArgs false
namespace Go.Vs



end Go.Vs
