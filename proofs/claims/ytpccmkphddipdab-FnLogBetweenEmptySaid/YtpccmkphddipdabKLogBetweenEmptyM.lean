/- What the functions compute. -/
import Derived.Test.YtpccmkphddipdabLogBetweenEmptyLib1
import Derived.Test.YtpccmkphddipdabLogBetweenEmptyEng1
set_option linter.unusedVariables false
set_option linter.unusedSimpArgs false
namespace Go.Vs



end Go.Vs
