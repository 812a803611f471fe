/- What the functions compute. -/
import Derived.Test.YtafocpclhkgmeaaExactNearestLib1
import Derived.Test.YtafocpclhkgmeaaExactNearestEng2
import Derived.Test.YtafocpclhkgmeaaExactNearestSrt1
set_option linter.unusedVariables false
set_option linter.unusedSimpArgs false
namespace Go.Vs



end Go.Vs
