/- What the functions compute. -/
import Derived.Test.YtdjjikmfkejdiadSpreadOfCentreLib1
import Derived.Test.YtdjjikmfkejdiadSpreadOfCentreEng1
set_option linter.unusedVariables false
set_option linter.unusedSimpArgs false
namespace Go.Vs



end Go.Vs
