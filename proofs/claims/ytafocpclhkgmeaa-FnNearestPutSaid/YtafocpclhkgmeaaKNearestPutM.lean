/- What the functions compute. -/
import Derived.Test.YtafocpclhkgmeaaNearestPutLib1
import Derived.Test.YtafocpclhkgmeaaNearestPutEng2
import Derived.Test.YtafocpclhkgmeaaNearestPutSrt1
set_option linter.unusedVariables false
set_option linter.unusedSimpArgs false
namespace Go.Vs



end Go.Vs
