/- What the functions compute. -/
import Derived.Test.YtfcemgcmpcmgcabExactValidHistoryLib1
import Derived.Test.YtfcemgcmpcmgcabExactValidHistoryEng2
set_option linter.unusedVariables false
set_option linter.unusedSimpArgs false
namespace Go.Vs



end Go.Vs
