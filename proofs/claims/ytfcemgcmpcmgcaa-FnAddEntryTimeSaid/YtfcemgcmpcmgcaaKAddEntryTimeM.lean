/- What the functions compute. -/
import Derived.Test.YtfcemgcmpcmgcaaAddEntryTimeLib1
import Derived.Test.YtfcemgcmpcmgcaaAddEntryTimeEng2
set_option linter.unusedVariables false
set_option linter.unusedSimpArgs false
namespace Go.Vs



end Go.Vs
