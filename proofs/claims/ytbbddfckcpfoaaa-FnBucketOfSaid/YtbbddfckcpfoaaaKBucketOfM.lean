/- What the functions compute. -/
import Derived.Test.YtbbddfckcpfoaaaBucketOfLib1
import Derived.Test.YtbbddfckcpfoaaaBucketOfEng1
set_option linter.unusedVariables false
set_option linter.unusedSimpArgs false
namespace Go.Vs



end Go.Vs
