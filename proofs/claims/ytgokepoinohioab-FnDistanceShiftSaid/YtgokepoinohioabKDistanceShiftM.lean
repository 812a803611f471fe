/- What the functions compute. -/
import Derived.Test.YtgokepoinohioabDistanceShiftLib1
import Derived.Test.YtgokepoinohioabDistanceShiftEng1
set_option linter.unusedVariables false
set_option linter.unusedSimpArgs false
namespace Go.Vs



end Go.Vs
