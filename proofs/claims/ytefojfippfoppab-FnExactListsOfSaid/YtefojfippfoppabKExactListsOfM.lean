/- What the functions compute. -/
import Derived.Test.YtefojfippfoppabExactListsOfLib1
import Derived.Test.YtefojfippfoppabExactListsOfEng1
import Derived.Test.YtefojfippfoppabExactListsOfEng2
set_option linter.unusedVariables false
set_option linter.unusedSimpArgs false
namespace Go.Vs



end Go.Vs
