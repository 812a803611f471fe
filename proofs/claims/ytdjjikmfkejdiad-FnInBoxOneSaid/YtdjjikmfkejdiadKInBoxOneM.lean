/- What the functions compute. -/
import Derived.Test.YtdjjikmfkejdiadInBoxOneLib1
import Derived.Test.YtdjjikmfkejdiadInBoxOneEng2
import Derived.Test.YtdjjikmfkejdiadInBoxOneSrt1
set_option linter.unusedVariables false
set_option linter.unusedSimpArgs false
namespace Go.Vs



end Go.Vs
