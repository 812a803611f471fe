/- What the functions compute. -/
import Derived.Test.YtfcemgcmpcmgcabExactChangedKeysLib1
import Derived.Test.YtfcemgcmpcmgcabExactChangedKeysEng2
set_option linter.unusedVariables false
set_option linter.unusedSimpArgs false
namespace Go.Vs



end Go.Vs
