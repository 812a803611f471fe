/- What the functions compute. -/
import Derived.Test.YtdjjikmfkejdiadBuildTreeOneLib1
import Derived.Test.YtdjjikmfkejdiadBuildTreeOneEng1
import Derived.Test.YtdjjikmfkejdiadBuildTreeOneSrt1
import Derived.Test.YtdjjikmfkejdiadBuildTreeOneEng2
set_option linter.unusedVariables false
set_option linter.unusedSimpArgs false
namespace Go.Vs



end Go.Vs
