/- What the functions compute. -/
import Derived.Test.YtdjjikmfkejdiadBuildTreeSizeLib1
import Derived.Test.YtdjjikmfkejdiadBuildTreeSizeEng1
import Derived.Test.YtdjjikmfkejdiadBuildTreeSizeSrt1
import Derived.Test.YtdjjikmfkejdiadBuildTreeSizeEng2
set_option linter.unusedVariables false
set_option linter.unusedSimpArgs false
namespace Go.Vs



end Go.Vs
