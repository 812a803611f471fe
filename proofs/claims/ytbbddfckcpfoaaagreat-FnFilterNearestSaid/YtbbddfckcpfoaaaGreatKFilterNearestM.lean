/- What the functions compute. -/
import Derived.Test.YtbbddfckcpfoaaaGreatFilterNearestLib1
import Derived.Test.YtbbddfckcpfoaaaGreatFilterNearestEng2
import Derived.Test.YtbbddfckcpfoaaaGreatFilterNearestSrt1
set_option linter.unusedVariables false
set_option linter.unusedSimpArgs false
namespace Go.Vs



end Go.Vs
