/- What the functions compute. -/
import Derived.Test.YtdjjikmfkejdiaaBoundsOfLib1
import Derived.Test.YtdjjikmfkejdiaaBoundsOfEng1
set_option linter.unusedVariables false
set_option linter.unusedSimpArgs false
namespace Go.Vs



end Go.Vs
