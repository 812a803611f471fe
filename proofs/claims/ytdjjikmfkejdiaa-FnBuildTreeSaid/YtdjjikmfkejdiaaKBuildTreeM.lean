/- What the functions compute. -/
import Derived.Test.YtdjjikmfkejdiaaBuildTreeLib1
import Derived.Test.YtdjjikmfkejdiaaBuildTreeEng1
import Derived.Test.YtdjjikmfkejdiaaBuildTreeSrt1
import Derived.Test.YtdjjikmfkejdiaaBuildTreeEng2
set_option linter.unusedVariables false
set_option linter.unusedSimpArgs false
namespace Go.Vs



end Go.Vs
