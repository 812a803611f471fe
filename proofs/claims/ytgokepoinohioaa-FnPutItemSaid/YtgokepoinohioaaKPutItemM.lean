/- What the functions compute. -/
import Derived.Test.YtgokepoinohioaaPutItemLib1
import Derived.Test.YtgokepoinohioaaPutItemEng1
set_option linter.unusedVariables false
set_option linter.unusedSimpArgs false
namespace Go.Vs



end Go.Vs
