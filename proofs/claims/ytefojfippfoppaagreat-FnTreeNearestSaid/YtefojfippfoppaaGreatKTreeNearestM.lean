/- What the functions compute. -/
import Derived.Test.YtefojfippfoppaaGreatTreeNearestLib1
import Derived.Test.YtefojfippfoppaaGreatTreeNearestEng2
import Derived.Test.YtefojfippfoppaaGreatTreeNearestSrt1
set_option linter.unusedVariables false
set_option linter.unusedSimpArgs false
namespace Go.Vs



end Go.Vs
