/- What the functions compute. -/
import Derived.Test.YtdjjikmfkejdiadCentreOfMoreLib1
import Derived.Test.YtdjjikmfkejdiadCentreOfMoreEng1
set_option linter.unusedVariables false
set_option linter.unusedSimpArgs false
namespace Go.Vs



end Go.Vs
