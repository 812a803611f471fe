/- What the functions compute. -/
import Derived.Test.YtifddljigkhfgabExactWithinDistLib1
import Derived.Test.YtifddljigkhfgabExactWithinDistEng2
set_option linter.unusedVariables false
set_option linter.unusedSimpArgs false
namespace Go.Vs



end Go.Vs
