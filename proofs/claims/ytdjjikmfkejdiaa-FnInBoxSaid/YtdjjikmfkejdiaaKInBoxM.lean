/- What the functions compute. -/
import Derived.Test.YtdjjikmfkejdiaaInBoxLib1
import Derived.Test.YtdjjikmfkejdiaaInBoxEng1
set_option linter.unusedVariables false
set_option linter.unusedSimpArgs false
namespace Go.Vs



end Go.Vs
