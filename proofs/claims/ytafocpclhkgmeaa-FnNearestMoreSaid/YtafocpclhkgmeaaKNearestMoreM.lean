/- What the functions compute. -/
import Derived.Test.YtafocpclhkgmeaaNearestMoreLib1
import Derived.Test.YtafocpclhkgmeaaNearestMoreEng2
import Derived.Test.YtafocpclhkgmeaaNearestMoreSrt1
set_option linter.unusedVariables false
set_option linter.unusedSimpArgs false
namespace Go.Vs



end Go.Vs
