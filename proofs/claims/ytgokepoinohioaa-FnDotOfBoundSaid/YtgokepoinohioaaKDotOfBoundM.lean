/- What the functions compute. -/
import Derived.Test.YtgokepoinohioaaDotOfBoundLib1
import Derived.Test.YtgokepoinohioaaDotOfBoundEng1
set_option linter.unusedVariables false
set_option linter.unusedSimpArgs false
namespace Go.Vs



end Go.Vs
