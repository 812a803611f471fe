/- What the functions compute. -/
import Derived.Test.YtefojfippfoppaaListsOfLib1
import Derived.Test.YtefojfippfoppaaListsOfEng1
import Derived.Test.YtefojfippfoppaaListsOfEng2
set_option linter.unusedVariables false
set_option linter.unusedSimpArgs false
namespace Go.Vs



end Go.Vs
