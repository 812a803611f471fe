/- What the functions compute. -/
import Derived.Test.YtgokepoinohioaaValidVectorLib1
import Derived.Test.YtgokepoinohioaaValidVectorEng1
set_option linter.unusedVariables false
set_option linter.unusedSimpArgs false
namespace Go.Vs



end Go.Vs
