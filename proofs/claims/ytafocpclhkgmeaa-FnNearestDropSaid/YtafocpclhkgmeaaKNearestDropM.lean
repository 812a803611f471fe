/- What the functions compute. -/
import Derived.Test.YtafocpclhkgmeaaNearestDropLib1
import Derived.Test.YtafocpclhkgmeaaNearestDropEng2
import Derived.Test.YtafocpclhkgmeaaNearestDropSrt1
set_option linter.unusedVariables false
set_option linter.unusedSimpArgs false
namespace Go.Vs



end Go.Vs
