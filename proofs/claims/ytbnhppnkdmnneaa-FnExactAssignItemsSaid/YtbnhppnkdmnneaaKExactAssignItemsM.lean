/- What the functions compute. -/
import Derived.Test.YtbnhppnkdmnneaaExactAssignItemsLib1
import Derived.Test.YtbnhppnkdmnneaaExactAssignItemsEng1
set_option linter.unusedVariables false
set_option linter.unusedSimpArgs false
namespace Go.Vs



end Go.Vs
