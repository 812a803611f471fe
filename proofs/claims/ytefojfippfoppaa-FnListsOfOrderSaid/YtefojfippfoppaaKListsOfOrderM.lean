/- What the functions compute. -/
import Derived.Test.YtefojfippfoppaaListsOfOrderLib1
import Derived.Test.YtefojfippfoppaaListsOfOrderEng1
import Derived.Test.YtefojfippfoppaaListsOfOrderEng2
set_option linter.unusedVariables false
set_option linter.unusedSimpArgs false
namespace Go.Vs



end Go.Vs
