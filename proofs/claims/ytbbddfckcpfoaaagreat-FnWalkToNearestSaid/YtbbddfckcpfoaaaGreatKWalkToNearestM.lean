/- What the functions compute. -/
import Derived.Test.YtbbddfckcpfoaaaGreatWalkToNearestLib1
import Derived.Test.YtbbddfckcpfoaaaGreatWalkToNearestEng2
import Derived.Test.YtbbddfckcpfoaaaGreatWalkToNearestSrt1
set_option linter.unusedVariables false
set_option linter.unusedSimpArgs false
namespace Go.Vs



end Go.Vs
