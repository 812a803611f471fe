/- What the functions compute. -/
import Derived.Test.YtpccmkphddipdabShardOfSpreadLib1
import Derived.Test.YtpccmkphddipdabShardOfSpreadEng1
set_option linter.unusedVariables false
set_option linter.unusedSimpArgs false
namespace Go.Vs



end Go.Vs
