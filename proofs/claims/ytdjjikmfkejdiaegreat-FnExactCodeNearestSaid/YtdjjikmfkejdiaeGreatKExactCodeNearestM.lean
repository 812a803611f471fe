/- What the functions compute. -/
import Derived.Test.YtdjjikmfkejdiaeGreatExactCodeNearestLib1
import Derived.Test.YtdjjikmfkejdiaeGreatExactCodeNearestEng2
import Derived.Test.YtdjjikmfkejdiaeGreatExactCodeNearestSrt1
set_option linter.unusedVariables false
set_option linter.unusedSimpArgs false
namespace Go.Vs



end Go.Vs
