/- What the functions compute. -/
import Derived.Test.YtlngcbbebchnbaaExactCentreOfLib1
import Derived.Test.YtlngcbbebchnbaaExactCentreOfEng1
set_option linter.unusedVariables false
set_option linter.unusedSimpArgs false
namespace Go.Vs



end Go.Vs
