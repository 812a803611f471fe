/- What the functions compute. -/
import Derived.Test.YtafocpclhkgmeaaInBoxMostLib1
import Derived.Test.YtafocpclhkgmeaaInBoxMostEng2
import Derived.Test.YtafocpclhkgmeaaInBoxMostSrt1
set_option linter.unusedVariables false
set_option linter.unusedSimpArgs false
namespace Go.Vs



end Go.Vs
