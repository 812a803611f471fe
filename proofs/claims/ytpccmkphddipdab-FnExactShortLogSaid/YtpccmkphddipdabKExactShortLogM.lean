/- What the functions compute. -/
import Derived.Test.YtpccmkphddipdabExactShortLogLib1
import Derived.Test.YtpccmkphddipdabExactShortLogEng1
import Derived.Test.YtpccmkphddipdabExactShortLogEng2
set_option linter.unusedVariables false
set_option linter.unusedSimpArgs false
namespace Go.Vs



end Go.Vs
