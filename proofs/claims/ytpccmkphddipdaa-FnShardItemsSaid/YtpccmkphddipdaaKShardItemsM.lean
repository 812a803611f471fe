/- What the functions compute. -/
import Derived.Test.YtpccmkphddipdaaShardItemsLib1
import Derived.Test.YtpccmkphddipdaaShardItemsEng1
set_option linter.unusedVariables false
set_option linter.unusedSimpArgs false
namespace Go.Vs



end Go.Vs
