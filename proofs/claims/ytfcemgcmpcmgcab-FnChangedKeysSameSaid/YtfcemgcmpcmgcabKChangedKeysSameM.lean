/- What the functions compute. -/
import Derived.Test.YtfcemgcmpcmgcabChangedKeysSameLib1
import Derived.Test.YtfcemgcmpcmgcabChangedKeysSameEng2
set_option linter.unusedVariables false
set_option linter.unusedSimpArgs false
namespace Go.Vs



end Go.Vs
