/- What the functions compute. -/
import Derived.Test.YtfcemgcmpcmgcaaAddEntryLib1
import Derived.Test.YtfcemgcmpcmgcaaAddEntryEng2
set_option linter.unusedVariables false
set_option linter.unusedSimpArgs false
set_option maxHeartbeats 2000000
namespace Go.Vs



end Go.Vs
