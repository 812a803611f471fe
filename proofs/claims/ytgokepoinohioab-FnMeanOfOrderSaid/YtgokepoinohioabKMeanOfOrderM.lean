/- What the functions compute. -/
import Derived.Test.YtgokepoinohioabMeanOfOrderLib1
import Derived.Test.YtgokepoinohioabMeanOfOrderEng1
set_option linter.unusedVariables false
set_option linter.unusedSimpArgs false
namespace Go.Vs



end Go.Vs
