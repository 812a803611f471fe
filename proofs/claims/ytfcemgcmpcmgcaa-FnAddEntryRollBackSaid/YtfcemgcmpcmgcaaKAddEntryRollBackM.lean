/- What the functions compute. -/
import Derived.Test.YtfcemgcmpcmgcaaAddEntryRollBackLib1
import Derived.Test.YtfcemgcmpcmgcaaAddEntryRollBackEng2
set_option linter.unusedVariables false
set_option linter.unusedSimpArgs false
namespace Go.Vs



end Go.Vs
