/- What the functions compute. -/
import Derived.Test.YtdjjikmfkejdiaaGreatInBoxMostLib1
import Derived.Test.YtdjjikmfkejdiaaGreatInBoxMostEng2
import Derived.Test.YtdjjikmfkejdiaaGreatInBoxMostSrt1
set_option linter.unusedVariables false
set_option linter.unusedSimpArgs false
namespace Go.Vs



end Go.Vs
