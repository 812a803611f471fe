/- What the functions compute. -/
import Derived.Test.YtefojfippfoppaaGreatProbeNearestMoreLib1
import Derived.Test.YtefojfippfoppaaGreatProbeNearestMoreEng2
set_option linter.unusedVariables false
set_option linter.unusedSimpArgs false
namespace Go.Vs



end Go.Vs
