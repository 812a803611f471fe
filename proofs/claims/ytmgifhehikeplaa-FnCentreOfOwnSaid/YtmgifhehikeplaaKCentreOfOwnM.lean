/- What the functions compute. -/
import Derived.Test.YtmgifhehikeplaaCentreOfOwnLib1
import Derived.Test.YtmgifhehikeplaaCentreOfOwnEng1
set_option linter.unusedVariables false
set_option linter.unusedSimpArgs false
namespace Go.Vs



end Go.Vs
