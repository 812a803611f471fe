/- What the functions compute. -/
import Derived.Test.YtfcemgcmpcmgcaaStoreAtLogLib1
import Derived.Test.YtfcemgcmpcmgcaaStoreAtLogEng2
set_option linter.unusedVariables false
set_option linter.unusedSimpArgs false
namespace Go.Vs



end Go.Vs
