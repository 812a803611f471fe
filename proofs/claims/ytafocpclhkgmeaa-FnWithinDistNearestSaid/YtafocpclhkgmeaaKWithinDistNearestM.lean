/- What the functions compute. -/
import Derived.Test.YtafocpclhkgmeaaWithinDistNearestLib1
import Derived.Test.YtafocpclhkgmeaaWithinDistNearestEng2
import Derived.Test.YtafocpclhkgmeaaWithinDistNearestSrt1
set_option linter.unusedVariables false
set_option linter.unusedSimpArgs false
namespace Go.Vs



end Go.Vs
