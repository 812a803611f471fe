/- What the functions compute. -/
import Derived.Test.YtefojfippfoppaaProbeCostLib1
import Derived.Test.YtefojfippfoppaaProbeCostEng1
import Derived.Test.YtefojfippfoppaaProbeCostEng2
set_option linter.unusedVariables false
set_option linter.unusedSimpArgs false
namespace Go.Vs



end Go.Vs
