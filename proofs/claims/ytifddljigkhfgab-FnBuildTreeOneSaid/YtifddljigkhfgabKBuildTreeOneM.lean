/- What the functions compute. -/
import Derived.Test.YtifddljigkhfgabBuildTreeOneLib1
import Derived.Test.YtifddljigkhfgabBuildTreeOneEng1
set_option linter.unusedVariables false
set_option linter.unusedSimpArgs false
namespace Go.Vs



end Go.Vs
