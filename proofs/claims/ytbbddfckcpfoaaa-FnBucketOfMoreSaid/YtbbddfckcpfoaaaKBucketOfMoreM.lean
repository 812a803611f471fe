/- What the functions compute. -/
import Derived.Test.YtbbddfckcpfoaaaBucketOfMoreLib1
import Derived.Test.YtbbddfckcpfoaaaBucketOfMoreEng1
set_option linter.unusedVariables false
set_option linter.unusedSimpArgs false
namespace Go.Vs



end Go.Vs
