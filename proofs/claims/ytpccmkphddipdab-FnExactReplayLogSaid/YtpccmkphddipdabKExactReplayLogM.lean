/- What the functions compute. -/
import Derived.Test.YtpccmkphddipdabExactReplayLogLib1
import Derived.Test.YtpccmkphddipdabExactReplayLogEng2
set_option linter.unusedVariables false
set_option linter.unusedSimpArgs false
namespace Go.Vs



end Go.Vs
