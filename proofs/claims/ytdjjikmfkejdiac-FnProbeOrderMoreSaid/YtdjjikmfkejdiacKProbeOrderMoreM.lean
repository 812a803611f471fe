/- What the functions compute. -/
import Derived.Test.YtdjjikmfkejdiacProbeOrderMoreLib1
import Derived.Test.YtdjjikmfkejdiacProbeOrderMoreEng1
set_option linter.unusedVariables false
set_option linter.unusedSimpArgs false
namespace Go.Vs



end Go.Vs
