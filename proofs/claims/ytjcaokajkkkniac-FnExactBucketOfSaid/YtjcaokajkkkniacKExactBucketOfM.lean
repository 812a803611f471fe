/- What the functions compute. -/
import Derived.Test.YtjcaokajkkkniacExactBucketOfLib1
import Derived.Test.YtjcaokajkkkniacExactBucketOfEng1
import Derived.Test.YtjcaokajkkkniacExactBucketOfEng2
set_option linter.unusedVariables false
set_option linter.unusedSimpArgs false
namespace Go.Vs



end Go.Vs
