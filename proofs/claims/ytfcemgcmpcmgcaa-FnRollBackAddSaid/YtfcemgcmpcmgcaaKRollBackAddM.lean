/- What the functions compute. -/
import Derived.Test.YtfcemgcmpcmgcaaRollBackAddLib1
import Derived.Test.YtfcemgcmpcmgcaaRollBackAddEng2
set_option linter.unusedVariables false
set_option linter.unusedSimpArgs false
namespace Go.Vs



end Go.Vs
