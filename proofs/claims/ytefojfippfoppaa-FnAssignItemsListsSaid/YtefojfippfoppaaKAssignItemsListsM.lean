/- What the functions compute. -/
import Derived.Test.YtefojfippfoppaaAssignItemsListsLib1
import Derived.Test.YtefojfippfoppaaAssignItemsListsEng1
import Derived.Test.YtefojfippfoppaaAssignItemsListsEng2
set_option linter.unusedVariables false
set_option linter.unusedSimpArgs false
namespace Go.Vs



end Go.Vs
