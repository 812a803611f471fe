/- What the functions compute. -/
import Derived.Test.YtbbddfckcpfoaaaGreatHashNearestLib1
import Derived.Test.YtbbddfckcpfoaaaGreatHashNearestEng2
import Derived.Test.YtbbddfckcpfoaaaGreatHashNearestSrt1
set_option linter.unusedVariables false
set_option linter.unusedSimpArgs false
namespace Go.Vs



end Go.Vs
