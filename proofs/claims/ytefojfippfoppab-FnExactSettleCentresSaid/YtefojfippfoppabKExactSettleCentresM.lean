/- What the functions compute. -/
import Derived.Test.YtefojfippfoppabExactSettleCentresLib1
import Derived.Test.YtefojfippfoppabExactSettleCentresEng1
import Derived.Test.YtefojfippfoppabExactSettleCentresEng2
set_option linter.unusedVariables false
set_option linter.unusedSimpArgs false
namespace Go.Vs



end Go.Vs
