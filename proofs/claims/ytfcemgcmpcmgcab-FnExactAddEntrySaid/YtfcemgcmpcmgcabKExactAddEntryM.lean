/- What the functions compute. -/
import Derived.Test.YtfcemgcmpcmgcabExactAddEntryLib1
import Derived.Test.YtfcemgcmpcmgcabExactAddEntryEng2
set_option linter.unusedVariables false
set_option linter.unusedSimpArgs false
namespace Go.Vs



end Go.Vs
