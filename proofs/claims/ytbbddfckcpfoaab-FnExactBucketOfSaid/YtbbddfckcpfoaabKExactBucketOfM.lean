/- What the functions compute. -/
import Derived.Test.YtbbddfckcpfoaabExactBucketOfLib1
import Derived.Test.YtbbddfckcpfoaabExactBucketOfEng1
set_option linter.unusedVariables false
set_option linter.unusedSimpArgs false
namespace Go.Vs



end Go.Vs
