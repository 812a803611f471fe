/- What the functions compute. -/
import Derived.Test.YtpccmkphddipdaaReplayLogLib1
import Derived.Test.YtpccmkphddipdaaReplayLogEng2
set_option linter.unusedVariables false
set_option linter.unusedSimpArgs false
namespace Go.Vs



end Go.Vs
