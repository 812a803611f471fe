/- What the functions compute. -/
import Derived.Test.YtanbdmdbfjonhaaFilterStoreBothLib1
import Derived.Test.YtanbdmdbfjonhaaFilterStoreBothEng1
set_option linter.unusedVariables false
set_option linter.unusedSimpArgs false
namespace Go.Vs



end Go.Vs
