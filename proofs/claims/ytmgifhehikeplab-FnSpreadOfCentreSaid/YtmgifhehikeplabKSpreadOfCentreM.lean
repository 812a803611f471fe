/- What the functions compute. -/
import Derived.Test.YtmgifhehikeplabSpreadOfCentreLib1
import Derived.Test.YtmgifhehikeplabSpreadOfCentreEng1
set_option linter.unusedVariables false
set_option linter.unusedSimpArgs false
namespace Go.Vs



end Go.Vs
