/- What the functions compute. -/
import Derived.Test.YtdjjikmfkejdiacSpreadOfLib1
import Derived.Test.YtdjjikmfkejdiacSpreadOfEng1
set_option linter.unusedVariables false
set_option linter.unusedSimpArgs false
namespace Go.Vs



end Go.Vs
