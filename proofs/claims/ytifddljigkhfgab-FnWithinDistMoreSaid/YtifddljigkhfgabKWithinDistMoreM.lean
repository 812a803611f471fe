/- What the functions compute. -/
import Derived.Test.YtifddljigkhfgabLib1
import Derived.Test.YtifddljigkhfgabEng2
set_option linter.unusedVariables false
set_option linter.unusedSimpArgs false
namespace Go.Vs



end Go.Vs
