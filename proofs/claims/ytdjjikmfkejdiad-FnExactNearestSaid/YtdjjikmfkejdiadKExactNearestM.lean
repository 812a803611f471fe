/- What the functions compute. -/
import Derived.Test.YtdjjikmfkejdiadExactNearestLib1
import Derived.Test.YtdjjikmfkejdiadExactNearestEng2
import Derived.Test.YtdjjikmfkejdiadExactNearestSrt1
set_option linter.unusedVariables false
set_option linter.unusedSimpArgs false
namespace Go.Vs



end Go.Vs
