/- What the functions compute. -/
import Derived.Test.YtcgkbgidfilodaaLib1
import Derived.Test.YtcgkbgidfilodaaEng1
set_option linter.unusedVariables false
set_option linter.unusedSimpArgs false
namespace Go.Vs



end Go.Vs
