/- What the functions compute. -/
import Derived.Test.YtbbddfckcpfoaabExactFilterNearestLib1
import Derived.Test.YtbbddfckcpfoaabExactFilterNearestEng2
import Derived.Test.YtbbddfckcpfoaabExactFilterNearestSrt1
set_option linter.unusedVariables false
set_option linter.unusedSimpArgs false
namespace Go.Vs



end Go.Vs
