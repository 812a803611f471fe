/- What the functions compute. -/
import Derived.Test.YtbbddfckcpfoaabBucketOfOwnLib1
import Derived.Test.YtbbddfckcpfoaabBucketOfOwnEng1
set_option linter.unusedVariables false
set_option linter.unusedSimpArgs false
namespace Go.Vs



end Go.Vs
