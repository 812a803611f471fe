/- What the functions compute. -/
import Derived.Test.YtanbdmdbfjonhaaGreatFilterNearestOpenLib1
import Derived.Test.YtanbdmdbfjonhaaGreatFilterNearestOpenEng2
import Derived.Test.YtanbdmdbfjonhaaGreatFilterNearestOpenSrt1
set_option linter.unusedVariables false
set_option linter.unusedSimpArgs false
namespace Go.Vs



end Go.Vs
