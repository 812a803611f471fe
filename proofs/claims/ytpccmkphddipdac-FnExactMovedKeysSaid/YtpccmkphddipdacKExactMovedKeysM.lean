/- What the functions compute. -/
import Derived.Test.YtpccmkphddipdacExactMovedKeysLib1
import Derived.Test.YtpccmkphddipdacExactMovedKeysEng1
set_option linter.unusedVariables false
set_option linter.unusedSimpArgs false
namespace Go.Vs



end Go.Vs
