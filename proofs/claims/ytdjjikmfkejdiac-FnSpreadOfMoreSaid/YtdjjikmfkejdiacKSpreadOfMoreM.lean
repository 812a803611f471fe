/- What the functions compute. -/
import Derived.Test.YtdjjikmfkejdiacSpreadOfMoreLib1
import Derived.Test.YtdjjikmfkejdiacSpreadOfMoreEng1
set_option linter.unusedVariables false
set_option linter.unusedSimpArgs false
namespace Go.Vs



end Go.Vs
