/- What the functions compute. -/
import Derived.Test.YtbbddfckcpfoaaaGreatFilterNearestOpenLib1
import Derived.Test.YtbbddfckcpfoaaaGreatFilterNearestOpenEng2
import Derived.Test.YtbbddfckcpfoaaaGreatFilterNearestOpenSrt1
set_option linter.unusedVariables false
set_option linter.unusedSimpArgs false
namespace Go.Vs



end Go.Vs
