/- What the functions compute. -/
import Derived.Test.YtpccmkphddipdaaReplayLogLastLib1
import Derived.Test.YtpccmkphddipdaaReplayLogLastEng2
set_option linter.unusedVariables false
set_option linter.unusedSimpArgs false
namespace Go.Vs



end Go.Vs
