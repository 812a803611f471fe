/- What the functions compute. -/
import Derived.Test.YtjmaadoeholmiaaPassesBitsLib1
import Derived.Test.YtjmaadoeholmiaaPassesBitsEng1
set_option linter.unusedVariables false
set_option linter.unusedSimpArgs false
namespace Go.Vs



end Go.Vs
