/- What the functions compute. -/
import Derived.Test.YtfcemgcmpcmgcaaRollBackLib1
import Derived.Test.YtfcemgcmpcmgcaaRollBackEng2
set_option linter.unusedVariables false
set_option linter.unusedSimpArgs false
namespace Go.Vs



end Go.Vs
