/- What the functions compute. -/
import Derived.Test.YtfcemgcmpcmgcabExactStoreAtLib1
import Derived.Test.YtfcemgcmpcmgcabExactStoreAtEng2
set_option linter.unusedVariables false
set_option linter.unusedSimpArgs false
namespace Go.Vs



end Go.Vs
