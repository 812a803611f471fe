/- What the functions compute. -/
import Derived.Test.YtpccmkphddipdaaShortLogReplayLib1
import Derived.Test.YtpccmkphddipdaaShortLogReplayEng2
set_option linter.unusedVariables false
set_option linter.unusedSimpArgs false
namespace Go.Vs



end Go.Vs
