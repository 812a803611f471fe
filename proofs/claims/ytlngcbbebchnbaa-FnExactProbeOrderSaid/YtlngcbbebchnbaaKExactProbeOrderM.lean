/- What the functions compute. -/
import Derived.Test.YtlngcbbebchnbaaExactProbeOrderLib1
import Derived.Test.YtlngcbbebchnbaaExactProbeOrderEng1
set_option linter.unusedVariables false
set_option linter.unusedSimpArgs false
namespace Go.Vs



end Go.Vs
