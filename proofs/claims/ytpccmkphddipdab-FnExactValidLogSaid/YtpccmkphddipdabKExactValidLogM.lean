/- What the functions compute. -/
import Derived.Test.YtpccmkphddipdabExactValidLogLib1
import Derived.Test.YtpccmkphddipdabExactValidLogEng1
set_option linter.unusedVariables false
set_option linter.unusedSimpArgs false
namespace Go.Vs



end Go.Vs
