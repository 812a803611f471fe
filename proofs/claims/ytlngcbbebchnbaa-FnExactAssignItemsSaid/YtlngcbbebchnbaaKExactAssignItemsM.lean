/- What the functions compute. -/
import Derived.Test.YtlngcbbebchnbaaExactAssignItemsLib1
import Derived.Test.YtlngcbbebchnbaaExactAssignItemsEng1
set_option linter.unusedVariables false
set_option linter.unusedSimpArgs false
namespace Go.Vs



end Go.Vs
