/- What the functions compute. -/
import Derived.Test.YtgokepoinohioaaMoveToNearerLib1
import Derived.Test.YtgokepoinohioaaMoveToNearerEng1
set_option linter.unusedVariables false
set_option linter.unusedSimpArgs false
namespace Go.Vs



end Go.Vs
