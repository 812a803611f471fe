/- What the functions compute. -/
import Derived.Test.YtgokepoinohioaaMeanOfLib1
import Derived.Test.YtgokepoinohioaaMeanOfEng1
set_option linter.unusedVariables false
set_option linter.unusedSimpArgs false
namespace Go.Vs



end Go.Vs
