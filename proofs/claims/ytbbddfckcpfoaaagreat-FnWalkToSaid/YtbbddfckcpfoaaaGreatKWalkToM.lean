/- What the functions compute. -/
import Derived.Test.YtbbddfckcpfoaaaGreatWalkToLib1
import Derived.Test.YtbbddfckcpfoaaaGreatWalkToEng2
import Derived.Test.YtbbddfckcpfoaaaGreatWalkToSrt1
set_option linter.unusedVariables false
set_option linter.unusedSimpArgs false
namespace Go.Vs



end Go.Vs
