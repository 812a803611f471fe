/- What the functions compute. -/
import Derived.Test.YtjcaokajkkkniaaCodeDistancesLib1
import Derived.Test.YtjcaokajkkkniaaCodeDistancesEng1
import Derived.Test.YtjcaokajkkkniaaCodeDistancesEng2
set_option linter.unusedVariables false
set_option linter.unusedSimpArgs false
namespace Go.Vs



end Go.Vs
