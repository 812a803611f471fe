/- What the functions compute. -/
import Derived.Test.YtdjjikmfkejdiacProbeCostLib1
import Derived.Test.YtdjjikmfkejdiacProbeCostEng1
import Derived.Test.YtdjjikmfkejdiacProbeCostEng2
set_option linter.unusedVariables false
set_option linter.unusedSimpArgs false
namespace Go.Vs



end Go.Vs
