/- What the functions compute. -/
import Derived.Test.YtjmaadoeholmiabBothFiltersOrderLib1
import Derived.Test.YtjmaadoeholmiabBothFiltersOrderEng1
set_option linter.unusedVariables false
set_option linter.unusedSimpArgs false
namespace Go.Vs



end Go.Vs
