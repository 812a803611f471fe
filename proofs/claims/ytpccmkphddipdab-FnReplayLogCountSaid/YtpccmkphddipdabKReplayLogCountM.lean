/- What the functions compute. -/
import Derived.Test.YtpccmkphddipdabReplayLogCountLib1
import Derived.Test.YtpccmkphddipdabReplayLogCountEng2
set_option linter.unusedVariables false
set_option linter.unusedSimpArgs false
namespace Go.Vs



end Go.Vs
