/- What the functions compute. -/
import Derived.Test.YtpccmkphddipdaaShardOfHalvesLib1
import Derived.Test.YtpccmkphddipdaaShardOfHalvesEng1
set_option linter.unusedVariables false
set_option linter.unusedSimpArgs false
namespace Go.Vs



end Go.Vs
