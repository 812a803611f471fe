/- What the functions compute. -/
import Derived.Test.YtjcaokajkkkniabGreatHashNearestLib1
import Derived.Test.YtjcaokajkkkniabGreatHashNearestEng2
import Derived.Test.YtjcaokajkkkniabGreatHashNearestSrt1
set_option linter.unusedVariables false
set_option linter.unusedSimpArgs false
namespace Go.Vs



end Go.Vs
