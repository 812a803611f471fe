/- What the functions compute. -/
import Derived.Test.YtgokepoinohioacExactPutItemLib1
import Derived.Test.YtgokepoinohioacExactPutItemEng2
set_option linter.unusedVariables false
set_option linter.unusedSimpArgs false
namespace Go.Vs



end Go.Vs
