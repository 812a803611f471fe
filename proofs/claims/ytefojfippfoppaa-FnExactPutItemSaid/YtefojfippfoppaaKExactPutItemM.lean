/- What the functions compute. -/
import Derived.Test.YtefojfippfoppaaExactPutItemLib1
import Derived.Test.YtefojfippfoppaaExactPutItemEng2
set_option linter.unusedVariables false
set_option linter.unusedSimpArgs false
namespace Go.Vs



end Go.Vs
