/- What the functions compute. -/
import Derived.Test.YtpccmkphddipdaaShortLogLib1
import Derived.Test.YtpccmkphddipdaaShortLogEng1
import Derived.Test.YtpccmkphddipdaaShortLogEng2
set_option linter.unusedVariables false
set_option linter.unusedSimpArgs false
namespace Go.Vs



end Go.Vs
