/- What the functions compute. -/
import Derived.Test.YtanbdmdbfjonhaaExactFilterNearestLib1
import Derived.Test.YtanbdmdbfjonhaaExactFilterNearestEng2
import Derived.Test.YtanbdmdbfjonhaaExactFilterNearestSrt1
set_option linter.unusedVariables false
set_option linter.unusedSimpArgs false
namespace Go.Vs



end Go.Vs
