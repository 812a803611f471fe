/- What the functions compute. -/
import Derived.Test.YtpccmkphddipdabExactLogBetweenLib1
import Derived.Test.YtpccmkphddipdabExactLogBetweenEng1
import Derived.Test.YtpccmkphddipdabExactLogBetweenEng2
set_option linter.unusedVariables false
set_option linter.unusedSimpArgs false
namespace Go.Vs



end Go.Vs
