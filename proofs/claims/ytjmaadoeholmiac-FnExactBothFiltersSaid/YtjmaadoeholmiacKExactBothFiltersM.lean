/- What the functions compute. -/
import Derived.Test.YtjmaadoeholmiacExactBothFiltersLib1
import Derived.Test.YtjmaadoeholmiacExactBothFiltersEng1
set_option linter.unusedVariables false
set_option linter.unusedSimpArgs false
namespace Go.Vs



end Go.Vs
