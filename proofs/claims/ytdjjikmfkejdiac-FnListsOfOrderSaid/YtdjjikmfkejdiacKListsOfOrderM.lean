/- What the functions compute. -/
import Derived.Test.YtdjjikmfkejdiacListsOfOrderLib1
import Derived.Test.YtdjjikmfkejdiacListsOfOrderEng1
import Derived.Test.YtdjjikmfkejdiacListsOfOrderEng2
set_option linter.unusedVariables false
set_option linter.unusedSimpArgs false
namespace Go.Vs



end Go.Vs
