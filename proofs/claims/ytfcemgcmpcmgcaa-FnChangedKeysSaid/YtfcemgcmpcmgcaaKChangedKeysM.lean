/- What the functions compute. -/
import Derived.Test.YtfcemgcmpcmgcaaChangedKeysLib1
import Derived.Test.YtfcemgcmpcmgcaaChangedKeysEng2
set_option linter.unusedVariables false
set_option linter.unusedSimpArgs false
namespace Go.Vs



end Go.Vs
