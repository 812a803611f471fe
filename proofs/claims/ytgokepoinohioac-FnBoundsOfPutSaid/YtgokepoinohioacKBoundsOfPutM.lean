/- What the functions compute. -/
import Derived.Test.YtgokepoinohioacBoundsOfPutLib1
import Derived.Test.YtgokepoinohioacBoundsOfPutEng2
set_option linter.unusedVariables false
set_option linter.unusedSimpArgs false
namespace Go.Vs



end Go.Vs
