/- What the functions compute. -/
import Derived.Test.YtbnhppnkdmnneaaGreatExactProbeNearestLib1
import Derived.Test.YtbnhppnkdmnneaaGreatExactProbeNearestEng2
import Derived.Test.YtbnhppnkdmnneaaGreatExactProbeNearestSrt1
set_option linter.unusedVariables false
set_option linter.unusedSimpArgs false
namespace Go.Vs



end Go.Vs
