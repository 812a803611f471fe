/- What the functions compute. -/
import Derived.Test.YtdjjikmfkejdiadGreatWalkToOnceLib1
import Derived.Test.YtdjjikmfkejdiadGreatWalkToOnceEng2
import Derived.Test.YtdjjikmfkejdiadGreatWalkToOnceSrt1
set_option linter.unusedVariables false
set_option linter.unusedSimpArgs false
namespace Go.Vs



end Go.Vs
