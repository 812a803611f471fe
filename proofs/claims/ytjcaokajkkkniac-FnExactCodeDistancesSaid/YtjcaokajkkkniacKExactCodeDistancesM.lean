/- What the functions compute. -/
import Derived.Test.YtjcaokajkkkniacExactCodeDistancesLib1
import Derived.Test.YtjcaokajkkkniacExactCodeDistancesEng1
import Derived.Test.YtjcaokajkkkniacExactCodeDistancesEng2
set_option linter.unusedVariables false
set_option linter.unusedSimpArgs false
namespace Go.Vs



end Go.Vs
