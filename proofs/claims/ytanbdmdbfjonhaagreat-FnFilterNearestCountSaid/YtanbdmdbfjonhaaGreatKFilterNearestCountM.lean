/- What the functions compute. -/
import Derived.Test.YtanbdmdbfjonhaaGreatFilterNearestCountLib1
import Derived.Test.YtanbdmdbfjonhaaGreatFilterNearestCountEng2
import Derived.Test.YtanbdmdbfjonhaaGreatFilterNearestCountSrt1
set_option linter.unusedVariables false
set_option linter.unusedSimpArgs false
namespace Go.Vs



end Go.Vs
