/- What the functions compute. -/
import Derived.Test.YtbnhppnkdmnneaaGreatExactTreeNearestLib1
import Derived.Test.YtbnhppnkdmnneaaGreatExactTreeNearestEng2
import Derived.Test.YtbnhppnkdmnneaaGreatExactTreeNearestSrt1
set_option linter.unusedVariables false
set_option linter.unusedSimpArgs false
namespace Go.Vs



end Go.Vs
