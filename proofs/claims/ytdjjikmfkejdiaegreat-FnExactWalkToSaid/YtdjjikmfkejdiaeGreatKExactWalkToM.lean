/- What the functions compute. -/
import Derived.Test.YtdjjikmfkejdiaeGreatExactWalkToLib1
import Derived.Test.YtdjjikmfkejdiaeGreatExactWalkToEng2
import Derived.Test.YtdjjikmfkejdiaeGreatExactWalkToSrt1
set_option linter.unusedVariables false
set_option linter.unusedSimpArgs false
namespace Go.Vs



end Go.Vs
