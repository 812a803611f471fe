/- What the functions compute. -/
import Derived.Test.YtefojfippfoppaaGreatProbeNearestAllLib1
import Derived.Test.YtefojfippfoppaaGreatProbeNearestAllEng2
set_option linter.unusedVariables false
set_option linter.unusedSimpArgs false
namespace Go.Vs



end Go.Vs
