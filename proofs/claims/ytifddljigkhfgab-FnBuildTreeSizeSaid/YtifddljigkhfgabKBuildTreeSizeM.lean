/- What the functions compute. -/
import Derived.Test.YtifddljigkhfgabBuildTreeSizeLib1
import Derived.Test.YtifddljigkhfgabBuildTreeSizeEng1
set_option linter.unusedVariables false
set_option linter.unusedSimpArgs false
namespace Go.Vs



end Go.Vs
