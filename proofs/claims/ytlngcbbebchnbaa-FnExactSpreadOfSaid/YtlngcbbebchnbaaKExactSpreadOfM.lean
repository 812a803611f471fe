/- What the functions compute. -/
import Derived.Test.YtlngcbbebchnbaaExactSpreadOfLib1
import Derived.Test.YtlngcbbebchnbaaExactSpreadOfEng1
set_option linter.unusedVariables false
set_option linter.unusedSimpArgs false
namespace Go.Vs



end Go.Vs
