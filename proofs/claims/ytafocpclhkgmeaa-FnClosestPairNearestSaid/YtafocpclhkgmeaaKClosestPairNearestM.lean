/- What the functions compute. -/
import Derived.Test.YtafocpclhkgmeaaClosestPairNearestLib1
import Derived.Test.YtafocpclhkgmeaaClosestPairNearestEng2
import Derived.Test.YtafocpclhkgmeaaClosestPairNearestSrt1
set_option linter.unusedVariables false
set_option linter.unusedSimpArgs false
namespace Go.Vs



end Go.Vs
