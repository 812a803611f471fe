/- What the functions compute. -/
import Derived.Test.YtdjjikmfkejdiacGreatProbeNearestMoreLib1
import Derived.Test.YtdjjikmfkejdiacGreatProbeNearestMoreEng2
import Derived.Test.YtdjjikmfkejdiacGreatProbeNearestMoreSrt1
set_option linter.unusedVariables false
set_option linter.unusedSimpArgs false
namespace Go.Vs



end Go.Vs
