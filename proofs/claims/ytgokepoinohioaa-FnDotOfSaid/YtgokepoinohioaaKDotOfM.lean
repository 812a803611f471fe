/- What the functions compute. -/
import Derived.Test.YtgokepoinohioaaDotOfLib1
import Derived.Test.YtgokepoinohioaaDotOfEng1
set_option linter.unusedVariables false
set_option linter.unusedSimpArgs false
namespace Go.Vs



end Go.Vs
