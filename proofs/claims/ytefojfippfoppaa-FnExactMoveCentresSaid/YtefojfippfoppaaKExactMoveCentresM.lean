/- What the functions compute. -/
import Derived.Test.YtefojfippfoppaaExactMoveCentresLib1
import Derived.Test.YtefojfippfoppaaExactMoveCentresEng1
import Derived.Test.YtefojfippfoppaaExactMoveCentresEng2
set_option linter.unusedVariables false
set_option linter.unusedSimpArgs false
namespace Go.Vs



end Go.Vs
