/- What the functions compute. -/
import Derived.Test.YtafocpclhkgmeaaExactWithinDistLib1
import Derived.Test.YtafocpclhkgmeaaExactWithinDistEng2
import Derived.Test.YtafocpclhkgmeaaExactWithinDistSrt1
set_option linter.unusedVariables false
set_option linter.unusedSimpArgs false
namespace Go.Vs



end Go.Vs
