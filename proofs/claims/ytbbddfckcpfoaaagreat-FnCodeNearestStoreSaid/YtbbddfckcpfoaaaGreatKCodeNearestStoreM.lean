/- What the functions compute. -/
import Derived.Test.YtbbddfckcpfoaaaGreatCodeNearestStoreLib1
import Derived.Test.YtbbddfckcpfoaaaGreatCodeNearestStoreEng2
import Derived.Test.YtbbddfckcpfoaaaGreatCodeNearestStoreSrt1
set_option linter.unusedVariables false
set_option linter.unusedSimpArgs false
namespace Go.Vs



end Go.Vs
