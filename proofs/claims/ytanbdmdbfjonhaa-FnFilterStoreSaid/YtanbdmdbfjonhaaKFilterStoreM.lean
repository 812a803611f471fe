/- What the functions compute. -/
import Derived.Test.YtanbdmdbfjonhaaFilterStoreLib1
import Derived.Test.YtanbdmdbfjonhaaFilterStoreEng1
set_option linter.unusedVariables false
set_option linter.unusedSimpArgs false
namespace Go.Vs



end Go.Vs
