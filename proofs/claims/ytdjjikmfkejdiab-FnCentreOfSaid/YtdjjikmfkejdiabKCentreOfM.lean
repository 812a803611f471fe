/- What the functions compute. -/
import Derived.Test.YtdjjikmfkejdiabCentreOfLib1
import Derived.Test.YtdjjikmfkejdiabCentreOfEng1
set_option linter.unusedVariables false
set_option linter.unusedSimpArgs false
namespace Go.Vs



end Go.Vs
