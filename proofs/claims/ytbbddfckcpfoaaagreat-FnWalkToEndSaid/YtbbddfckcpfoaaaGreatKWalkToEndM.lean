/- What the functions compute. -/
import Derived.Test.YtbbddfckcpfoaaaGreatWalkToEndLib1
import Derived.Test.YtbbddfckcpfoaaaGreatWalkToEndEng2
import Derived.Test.YtbbddfckcpfoaaaGreatWalkToEndSrt1
set_option linter.unusedVariables false
set_option linter.unusedSimpArgs false
namespace Go.Vs



end Go.Vs
