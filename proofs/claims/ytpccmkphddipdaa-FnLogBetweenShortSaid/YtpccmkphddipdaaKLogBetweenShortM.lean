/- What the functions compute. -/
import Derived.Test.YtpccmkphddipdaaLogBetweenShortLib1
import Derived.Test.YtpccmkphddipdaaLogBetweenShortEng1
import Derived.Test.YtpccmkphddipdaaLogBetweenShortEng2
set_option linter.unusedVariables false
set_option linter.unusedSimpArgs false
namespace Go.Vs



end Go.Vs
