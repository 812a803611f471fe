/- What the functions compute. -/
import Derived.Test.YtafocpclhkgmeaaNearestOwnLib1
import Derived.Test.YtafocpclhkgmeaaNearestOwnEng2
import Derived.Test.YtafocpclhkgmeaaNearestOwnSrt1
set_option linter.unusedVariables false
set_option linter.unusedSimpArgs false
namespace Go.Vs



end Go.Vs
