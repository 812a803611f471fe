/- What the functions compute. -/
import Derived.Test.YtdjjikmfkejdiadProbeCostMoreLib1
import Derived.Test.YtdjjikmfkejdiadProbeCostMoreEng1
import Derived.Test.YtdjjikmfkejdiadProbeCostMoreEng2
set_option linter.unusedVariables false
set_option linter.unusedSimpArgs false
namespace Go.Vs



end Go.Vs
