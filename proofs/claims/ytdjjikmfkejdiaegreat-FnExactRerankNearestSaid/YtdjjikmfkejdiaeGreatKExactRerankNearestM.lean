/- What the functions compute. -/
import Derived.Test.YtdjjikmfkejdiaeGreatExactRerankNearestLib1
import Derived.Test.YtdjjikmfkejdiaeGreatExactRerankNearestEng2
import Derived.Test.YtdjjikmfkejdiaeGreatExactRerankNearestSrt1
set_option linter.unusedVariables false
set_option linter.unusedSimpArgs false
namespace Go.Vs



end Go.Vs
