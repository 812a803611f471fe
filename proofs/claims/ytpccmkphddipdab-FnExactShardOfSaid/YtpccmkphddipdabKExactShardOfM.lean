/- What the functions compute. -/
import Derived.Test.YtpccmkphddipdabExactShardOfLib1
import Derived.Test.YtpccmkphddipdabExactShardOfEng1
set_option linter.unusedVariables false
set_option linter.unusedSimpArgs false
namespace Go.Vs



end Go.Vs
