/- What the functions compute. -/
import Derived.Test.YtfcemgcmpcmgcaaValidHistoryLib1
import Derived.Test.YtfcemgcmpcmgcaaValidHistoryEng2
set_option linter.unusedVariables false
set_option linter.unusedSimpArgs false
namespace Go.Vs



end Go.Vs
