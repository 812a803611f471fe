/- What the functions compute. -/
import Derived.Test.YtmgifhehikeplabCentreOfMoreLib1
import Derived.Test.YtmgifhehikeplabCentreOfMoreEng1
set_option linter.unusedVariables false
set_option linter.unusedSimpArgs false
namespace Go.Vs



end Go.Vs
