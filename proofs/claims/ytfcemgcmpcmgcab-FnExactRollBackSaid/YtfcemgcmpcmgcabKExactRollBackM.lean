/- What the functions compute. -/
import Derived.Test.YtfcemgcmpcmgcabExactRollBackLib1
import Derived.Test.YtfcemgcmpcmgcabExactRollBackEng2
set_option linter.unusedVariables false
set_option linter.unusedSimpArgs false
namespace Go.Vs



end Go.Vs
