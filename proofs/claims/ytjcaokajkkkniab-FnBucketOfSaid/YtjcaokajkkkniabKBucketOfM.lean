/- What the functions compute. -/
import Derived.Test.YtjcaokajkkkniabBucketOfLib1
import Derived.Test.YtjcaokajkkkniabBucketOfEng1
set_option linter.unusedVariables false
set_option linter.unusedSimpArgs false
namespace Go.Vs



end Go.Vs
