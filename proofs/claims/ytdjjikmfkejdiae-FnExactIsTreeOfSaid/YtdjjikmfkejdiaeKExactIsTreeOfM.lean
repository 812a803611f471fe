/- What the functions compute. -/
import Derived.Test.YtdjjikmfkejdiaeExactIsTreeOfLib1
import Derived.Test.YtdjjikmfkejdiaeExactIsTreeOfEng2
import Derived.Test.YtdjjikmfkejdiaeExactIsTreeOfSrt1
set_option linter.unusedVariables false
set_option linter.unusedSimpArgs false
namespace Go.Vs



end Go.Vs
