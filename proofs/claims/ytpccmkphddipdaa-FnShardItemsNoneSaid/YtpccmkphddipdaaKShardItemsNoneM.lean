/- What the functions compute. -/
import Derived.Test.YtpccmkphddipdaaShardItemsNoneLib1
import Derived.Test.YtpccmkphddipdaaShardItemsNoneEng1
set_option linter.unusedVariables false
set_option linter.unusedSimpArgs false
namespace Go.Vs



end Go.Vs
