/- What the functions compute. -/
import Derived.Test.YtjcaokajkkkniabBucketOfMoreLib1
import Derived.Test.YtjcaokajkkkniabBucketOfMoreEng1
set_option linter.unusedVariables false
set_option linter.unusedSimpArgs false
namespace Go.Vs



end Go.Vs
