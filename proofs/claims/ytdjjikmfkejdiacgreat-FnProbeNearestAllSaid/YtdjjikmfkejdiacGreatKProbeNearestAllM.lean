/- What the functions compute. -/
import Derived.Test.YtdjjikmfkejdiacGreatProbeNearestAllLib1
import Derived.Test.YtdjjikmfkejdiacGreatProbeNearestAllEng2
import Derived.Test.YtdjjikmfkejdiacGreatProbeNearestAllSrt1
set_option linter.unusedVariables false
set_option linter.unusedSimpArgs false
namespace Go.Vs



end Go.Vs
