/- What the functions compute. -/
import Derived.Test.YtanbdmdbfjonhaaGreatFilterNearestLib1
import Derived.Test.YtanbdmdbfjonhaaGreatFilterNearestEng2
import Derived.Test.YtanbdmdbfjonhaaGreatFilterNearestSrt1
set_option linter.unusedVariables false
set_option linter.unusedSimpArgs false
namespace Go.Vs



end Go.Vs
