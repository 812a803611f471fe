/- What the functions compute. -/
import Derived.Test.YtefojfippfoppaaGreatExactTreeNearestLib1
import Derived.Test.YtefojfippfoppaaGreatExactTreeNearestEng2
import Derived.Test.YtefojfippfoppaaGreatExactTreeNearestSrt1
set_option linter.unusedVariables false
set_option linter.unusedSimpArgs false
namespace Go.Vs



end Go.Vs
