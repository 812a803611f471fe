/- What the functions compute. -/
import Derived.Test.YtdjjikmfkejdiadClosestPairDropLib1
import Derived.Test.YtdjjikmfkejdiadClosestPairDropEng1
set_option linter.unusedVariables false
set_option linter.unusedSimpArgs false
namespace Go.Vs



end Go.Vs
