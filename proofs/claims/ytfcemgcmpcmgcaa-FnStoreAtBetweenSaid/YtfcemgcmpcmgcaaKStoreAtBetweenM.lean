/- What the functions compute. -/
import Derived.Test.YtfcemgcmpcmgcaaStoreAtBetweenLib1
import Derived.Test.YtfcemgcmpcmgcaaStoreAtBetweenEng2
set_option linter.unusedVariables false
set_option linter.unusedSimpArgs false
namespace Go.Vs



end Go.Vs
