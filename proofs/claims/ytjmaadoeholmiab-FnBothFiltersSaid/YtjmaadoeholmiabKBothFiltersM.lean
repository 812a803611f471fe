/- What the functions compute. -/
import Derived.Test.YtjmaadoeholmiabBothFiltersLib1
import Derived.Test.YtjmaadoeholmiabBothFiltersEng1
set_option linter.unusedVariables false
set_option linter.unusedSimpArgs false
namespace Go.Vs



end Go.Vs
