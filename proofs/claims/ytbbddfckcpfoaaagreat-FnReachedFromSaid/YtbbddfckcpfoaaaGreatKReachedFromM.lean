/- What the functions compute. -/
import Derived.Test.YtbbddfckcpfoaaaGreatReachedFromLib1
import Derived.Test.YtbbddfckcpfoaaaGreatReachedFromEng2
import Derived.Test.YtbbddfckcpfoaaaGreatReachedFromSrt1
set_option linter.unusedVariables false
set_option linter.unusedSimpArgs false
namespace Go.Vs



end Go.Vs
