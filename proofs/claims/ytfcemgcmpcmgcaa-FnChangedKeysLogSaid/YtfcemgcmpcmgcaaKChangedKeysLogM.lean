/- What the functions compute. -/
import Derived.Test.YtfcemgcmpcmgcaaChangedKeysLogLib1
import Derived.Test.YtfcemgcmpcmgcaaChangedKeysLogEng2
set_option linter.unusedVariables false
set_option linter.unusedSimpArgs false
namespace Go.Vs



end Go.Vs
