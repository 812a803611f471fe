/- What the functions compute. -/
import Derived.Test.YtafocpclhkgmeaaNearestDistanceLib1
import Derived.Test.YtafocpclhkgmeaaNearestDistanceEng2
import Derived.Test.YtafocpclhkgmeaaNearestDistanceSrt1
set_option linter.unusedVariables false
set_option linter.unusedSimpArgs false
namespace Go.Vs



end Go.Vs
