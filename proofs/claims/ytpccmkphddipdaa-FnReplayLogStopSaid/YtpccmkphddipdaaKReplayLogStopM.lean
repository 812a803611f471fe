/- What the functions compute. -/
import Derived.Test.YtpccmkphddipdaaReplayLogStopLib1
import Derived.Test.YtpccmkphddipdaaReplayLogStopEng2
set_option linter.unusedVariables false
set_option linter.unusedSimpArgs false
namespace Go.Vs



end Go.Vs
