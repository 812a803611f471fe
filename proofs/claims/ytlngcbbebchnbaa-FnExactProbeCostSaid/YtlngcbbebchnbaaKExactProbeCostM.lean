/- What the functions compute. -/
import Derived.Test.YtlngcbbebchnbaaExactProbeCostLib1
import Derived.Test.YtlngcbbebchnbaaExactProbeCostEng1
import Derived.Test.YtlngcbbebchnbaaExactProbeCostEng2
set_option linter.unusedVariables false
set_option linter.unusedSimpArgs false
namespace Go.Vs



end Go.Vs
