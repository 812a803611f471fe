/- What the functions compute. -/
import Derived.Test.YtefojfippfoppabGreatExactProbeNearestLib1
import Derived.Test.YtefojfippfoppabGreatExactProbeNearestEng2
set_option linter.unusedVariables false
set_option linter.unusedSimpArgs false
namespace Go.Vs



end Go.Vs
