/- What the functions compute. -/
import Derived.Test.YtfcemgcmpcmgcaaRollBackTwiceLib1
import Derived.Test.YtfcemgcmpcmgcaaRollBackTwiceEng2
set_option linter.unusedVariables false
set_option linter.unusedSimpArgs false
namespace Go.Vs



end Go.Vs
