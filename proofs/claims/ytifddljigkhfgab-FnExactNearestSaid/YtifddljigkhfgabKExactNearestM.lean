/- What the functions compute. -/
import Derived.Test.YtifddljigkhfgabExactNearestLib1
import Derived.Test.YtifddljigkhfgabExactNearestEng2
set_option linter.unusedVariables false
set_option linter.unusedSimpArgs false
namespace Go.Vs



end Go.Vs
