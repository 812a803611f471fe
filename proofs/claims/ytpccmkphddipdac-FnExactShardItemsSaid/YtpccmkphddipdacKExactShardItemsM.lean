/- What the functions compute. -/
import Derived.Test.YtpccmkphddipdacExactShardItemsLib1
import Derived.Test.YtpccmkphddipdacExactShardItemsEng1
import Derived.Test.YtpccmkphddipdacExactShardItemsEng2
set_option linter.unusedVariables false
set_option linter.unusedSimpArgs false
namespace Go.Vs



end Go.Vs
