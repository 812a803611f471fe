/- What the functions compute. -/
import Derived.Test.YtafocpclhkgmeaaWithinDistMoreLib1
import Derived.Test.YtafocpclhkgmeaaWithinDistMoreEng2
import Derived.Test.YtafocpclhkgmeaaWithinDistMoreSrt1
set_option linter.unusedVariables false
set_option linter.unusedSimpArgs false
namespace Go.Vs



end Go.Vs
