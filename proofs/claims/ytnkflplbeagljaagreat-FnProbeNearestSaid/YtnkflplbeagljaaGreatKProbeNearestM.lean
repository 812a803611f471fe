/- What the functions compute. -/
import Derived.Test.YtnkflplbeagljaaGreatProbeNearestLib1
import Derived.Test.YtnkflplbeagljaaGreatProbeNearestEng2
import Derived.Test.YtnkflplbeagljaaGreatProbeNearestSrt1
set_option linter.unusedVariables false
set_option linter.unusedSimpArgs false
namespace Go.Vs



end Go.Vs
