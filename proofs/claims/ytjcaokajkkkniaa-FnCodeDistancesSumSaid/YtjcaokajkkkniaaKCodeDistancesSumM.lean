/- What the functions compute. -/
import Derived.Test.YtjcaokajkkkniaaCodeDistancesSumLib1
import Derived.Test.YtjcaokajkkkniaaCodeDistancesSumEng1
set_option linter.unusedVariables false
set_option linter.unusedSimpArgs false
namespace Go.Vs



end Go.Vs
