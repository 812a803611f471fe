/- What the functions compute. -/
import Derived.Test.YtgokepoinohioabMoveToSameLib1
import Derived.Test.YtgokepoinohioabMoveToSameEng1
set_option linter.unusedVariables false
set_option linter.unusedSimpArgs false
namespace Go.Vs



end Go.Vs
