/- What the functions compute. -/
import Derived.Test.YtpccmkphddipdabMovedKeysLib1
import Derived.Test.YtpccmkphddipdabMovedKeysEng1
set_option linter.unusedVariables false
set_option linter.unusedSimpArgs false
namespace Go.Vs



end Go.Vs
