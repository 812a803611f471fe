/- What the functions compute. -/
import Derived.Test.YtcgkbgidfilodaaLibM8
import Derived.Test.YtcgkbgidfilodaaVtMan
set_option linter.unusedVariables false
set_option linter.unusedSimpArgs false
namespace Go.Vs



end Go.Vs
