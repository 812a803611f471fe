/- What the functions compute. -/
import Derived.Test.YtjmaadoeholmiacGreatExactWalkToLib1
import Derived.Test.YtjmaadoeholmiacGreatExactWalkToEng2
import Derived.Test.YtjmaadoeholmiacGreatExactWalkToSrt1
set_option linter.unusedVariables false
set_option linter.unusedSimpArgs false
namespace Go.Vs



end Go.Vs
