/- What the functions compute. -/
import Derived.Test.YtjcaokajkkkniabBucketOfOwnLib1
import Derived.Test.YtjcaokajkkkniabBucketOfOwnEng1
set_option linter.unusedVariables false
set_option linter.unusedSimpArgs false
namespace Go.Vs



end Go.Vs
