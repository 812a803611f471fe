/- What the functions compute. -/
import Derived.Test.YtjmaadoeholmiaaPassesLib1
import Derived.Test.YtjmaadoeholmiaaPassesEng1
set_option linter.unusedVariables false
set_option linter.unusedSimpArgs false
namespace Go.Vs



end Go.Vs
