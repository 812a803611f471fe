/- What the functions compute. -/
import Derived.Test.YtdjjikmfkejdiacListsOfLib1
import Derived.Test.YtdjjikmfkejdiacListsOfEng1
import Derived.Test.YtdjjikmfkejdiacListsOfEng2
set_option linter.unusedVariables false
set_option linter.unusedSimpArgs false
namespace Go.Vs



end Go.Vs
