/- What the functions compute. -/
import Derived.Test.YtpccmkphddipdaaValidLogLib1
import Derived.Test.YtpccmkphddipdaaValidLogEng1
import Derived.Test.YtpccmkphddipdaaValidLogEng2
set_option linter.unusedVariables false
set_option linter.unusedSimpArgs false
namespace Go.Vs



end Go.Vs
