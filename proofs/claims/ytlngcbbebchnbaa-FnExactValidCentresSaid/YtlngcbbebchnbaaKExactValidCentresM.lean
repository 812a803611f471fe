/- What the functions compute. -/
import Derived.Test.YtlngcbbebchnbaaExactValidCentresLib1
import Derived.Test.YtlngcbbebchnbaaExactValidCentresEng1
set_option linter.unusedVariables false
set_option linter.unusedSimpArgs false
namespace Go.Vs



end Go.Vs
