/- What the functions compute. -/
import Derived.Test.YtanbdmdbfjonhaaExactFilterStoreLib1
import Derived.Test.YtanbdmdbfjonhaaExactFilterStoreEng1
import Derived.Test.YtanbdmdbfjonhaaExactFilterStoreEng2
set_option linter.unusedVariables false
set_option linter.unusedSimpArgs false
namespace Go.Vs



end Go.Vs
