/- What the functions compute. -/
import Derived.Test.YtpccmkphddipdabMovedKeysHalfLib1
import Derived.Test.YtpccmkphddipdabMovedKeysHalfEng1
set_option linter.unusedVariables false
set_option linter.unusedSimpArgs false
namespace Go.Vs



end Go.Vs
