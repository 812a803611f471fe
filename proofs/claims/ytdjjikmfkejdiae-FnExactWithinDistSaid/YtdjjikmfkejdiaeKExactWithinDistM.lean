/- What the functions compute. -/
import Derived.Test.YtdjjikmfkejdiaeExactWithinDistLib1
import Derived.Test.YtdjjikmfkejdiaeExactWithinDistEng2
import Derived.Test.YtdjjikmfkejdiaeExactWithinDistSrt1
set_option linter.unusedVariables false
set_option linter.unusedSimpArgs false
namespace Go.Vs



end Go.Vs
