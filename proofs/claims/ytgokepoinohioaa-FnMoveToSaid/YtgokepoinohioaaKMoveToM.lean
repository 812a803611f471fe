/- What the functions compute. -/
import Derived.Test.YtgokepoinohioaaMoveToLib1
import Derived.Test.YtgokepoinohioaaMoveToEng1
set_option linter.unusedVariables false
set_option linter.unusedSimpArgs false
namespace Go.Vs



end Go.Vs
