/- What the functions compute. -/
import Derived.Test.YtefojfippfoppaaExactDropItemLib1
import Derived.Test.YtefojfippfoppaaExactDropItemEng1
import Derived.Test.YtefojfippfoppaaExactDropItemEng2
set_option linter.unusedVariables false
set_option linter.unusedSimpArgs false
namespace Go.Vs



end Go.Vs
