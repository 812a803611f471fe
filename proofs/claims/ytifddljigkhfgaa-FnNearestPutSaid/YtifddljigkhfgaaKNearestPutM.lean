/- What the functions compute. -/
import Derived.Test.YtifddljigkhfgaaLib1
import Derived.Test.YtifddljigkhfgaaEng2
set_option linter.unusedVariables false
set_option linter.unusedSimpArgs false
namespace Go.Vs



end Go.Vs
