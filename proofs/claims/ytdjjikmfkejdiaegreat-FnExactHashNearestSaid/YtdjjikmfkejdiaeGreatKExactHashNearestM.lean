/- What the functions compute. -/
import Derived.Test.YtdjjikmfkejdiaeGreatExactHashNearestLib1
import Derived.Test.YtdjjikmfkejdiaeGreatExactHashNearestEng2
import Derived.Test.YtdjjikmfkejdiaeGreatExactHashNearestSrt1
set_option linter.unusedVariables false
set_option linter.unusedSimpArgs false
namespace Go.Vs



end Go.Vs
