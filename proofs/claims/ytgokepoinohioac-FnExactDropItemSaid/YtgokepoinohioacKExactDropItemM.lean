/- What the functions compute. -/
import Derived.Test.YtgokepoinohioacExactDropItemLib1
import Derived.Test.YtgokepoinohioacExactDropItemEng1
import Derived.Test.YtgokepoinohioacExactDropItemEng2
set_option linter.unusedVariables false
set_option linter.unusedSimpArgs false
namespace Go.Vs



end Go.Vs
