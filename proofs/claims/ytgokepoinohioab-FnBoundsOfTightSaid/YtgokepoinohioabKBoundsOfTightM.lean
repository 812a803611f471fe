/- What the functions compute. -/
import Derived.Test.YtgokepoinohioabBoundsOfTightLib1
import Derived.Test.YtgokepoinohioabBoundsOfTightEng1
set_option linter.unusedVariables false
set_option linter.unusedSimpArgs false
namespace Go.Vs



end Go.Vs
