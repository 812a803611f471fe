/- What the functions compute. -/
import Derived.Test.YtgokepoinohioabDropItemLib1
import Derived.Test.YtgokepoinohioabDropItemEng2
set_option linter.unusedVariables false
set_option linter.unusedSimpArgs false
namespace Go.Vs



end Go.Vs
