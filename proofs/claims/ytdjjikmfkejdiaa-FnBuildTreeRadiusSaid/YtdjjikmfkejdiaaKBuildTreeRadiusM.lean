/- What the functions compute. -/
import Derived.Test.YtdjjikmfkejdiaaBuildTreeRadiusLib1
import Derived.Test.YtdjjikmfkejdiaaBuildTreeRadiusEng1
import Derived.Test.YtdjjikmfkejdiaaBuildTreeRadiusSrt1
import Derived.Test.YtdjjikmfkejdiaaBuildTreeRadiusEng2
set_option linter.unusedVariables false
set_option linter.unusedSimpArgs false
namespace Go.Vs



end Go.Vs
