/- What the functions compute. -/
import Derived.Test.YtdjjikmfkejdiaaIsTreeOfLib1
import Derived.Test.YtdjjikmfkejdiaaIsTreeOfEng1
import Derived.Test.YtdjjikmfkejdiaaIsTreeOfSrt1
import Derived.Test.YtdjjikmfkejdiaaIsTreeOfEng2
set_option linter.unusedVariables false
set_option linter.unusedSimpArgs false
namespace Go.Vs



end Go.Vs
