/- What the functions compute. -/
import Derived.Test.YtmgifhehikeplaaCentreOfLib1
import Derived.Test.YtmgifhehikeplaaCentreOfEng1
set_option linter.unusedVariables false
set_option linter.unusedSimpArgs false
namespace Go.Vs



end Go.Vs
