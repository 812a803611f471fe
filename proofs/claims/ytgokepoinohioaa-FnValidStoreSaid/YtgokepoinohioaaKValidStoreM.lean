/- What the functions compute. -/
import Derived.Test.YtgokepoinohioaaValidStoreLib1
import Derived.Test.YtgokepoinohioaaValidStoreEng1
set_option linter.unusedVariables false
set_option linter.unusedSimpArgs false
namespace Go.Vs



end Go.Vs
