/- What the functions compute. -/
import Derived.Test.YtdjjikmfkejdiaeExactBuildTreeLib1
import Derived.Test.YtdjjikmfkejdiaeExactBuildTreeEng1
import Derived.Test.YtdjjikmfkejdiaeExactBuildTreeEng2
import Derived.Test.YtdjjikmfkejdiaeExactBuildTreeSrt1
set_option linter.unusedVariables false
set_option linter.unusedSimpArgs false
namespace Go.Vs



end Go.Vs
