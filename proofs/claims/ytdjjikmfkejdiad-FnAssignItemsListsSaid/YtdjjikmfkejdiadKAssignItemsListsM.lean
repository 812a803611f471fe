/- What the functions compute. -/
import Derived.Test.YtdjjikmfkejdiadAssignItemsListsLib1
import Derived.Test.YtdjjikmfkejdiadAssignItemsListsEng1
import Derived.Test.YtdjjikmfkejdiadAssignItemsListsEng2
set_option linter.unusedVariables false
set_option linter.unusedSimpArgs false
namespace Go.Vs



end Go.Vs
