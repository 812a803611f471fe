/- What the functions compute. -/
import Derived.Test.YtgokepoinohioabGetItemLib1
import Derived.Test.YtgokepoinohioabGetItemEng1
set_option linter.unusedVariables false
set_option linter.unusedSimpArgs false
namespace Go.Vs



end Go.Vs
