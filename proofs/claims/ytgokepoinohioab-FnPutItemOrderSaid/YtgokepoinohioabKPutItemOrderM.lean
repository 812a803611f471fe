/- What the functions compute. -/
import Derived.Test.YtgokepoinohioabPutItemOrderLib1
import Derived.Test.YtgokepoinohioabPutItemOrderEng1
set_option linter.unusedVariables false
set_option linter.unusedSimpArgs false
namespace Go.Vs



end Go.Vs
