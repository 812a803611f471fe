/- What the functions compute. -/
import Derived.Test.YtgokepoinohioabDropItemOrderLib1
import Derived.Test.YtgokepoinohioabDropItemOrderEng1
set_option linter.unusedVariables false
set_option linter.unusedSimpArgs false
namespace Go.Vs



end Go.Vs
