/- What the functions compute. -/
import Derived.Test.YtfcemgcmpcmgcaaStoreAtLib1
import Derived.Test.YtfcemgcmpcmgcaaStoreAtEng2
set_option linter.unusedVariables false
set_option linter.unusedSimpArgs false
namespace Go.Vs



end Go.Vs
