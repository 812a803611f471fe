/- What the functions compute. -/
import Derived.Test.YtgokepoinohioacExactDotOfLib1
import Derived.Test.YtgokepoinohioacExactDotOfEng1
set_option linter.unusedVariables false
set_option linter.unusedSimpArgs false
namespace Go.Vs



end Go.Vs
