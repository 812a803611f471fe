/- What the functions compute. -/
import Derived.Test.YtpccmkphddipdaaLogBetweenLib1
import Derived.Test.YtpccmkphddipdaaLogBetweenEng2
set_option linter.unusedVariables false
set_option linter.unusedSimpArgs false
namespace Go.Vs



end Go.Vs
