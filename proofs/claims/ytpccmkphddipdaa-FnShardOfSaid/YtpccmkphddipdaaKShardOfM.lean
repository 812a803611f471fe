/- What the functions compute. -/
import Derived.Test.YtpccmkphddipdaaShardOfLib1
import Derived.Test.YtpccmkphddipdaaShardOfEng1
set_option linter.unusedVariables false
set_option linter.unusedSimpArgs false
namespace Go.Vs



end Go.Vs
