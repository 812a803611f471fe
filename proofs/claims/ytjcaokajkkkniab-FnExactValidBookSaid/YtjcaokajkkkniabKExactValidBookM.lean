/- What the functions compute. -/
import Derived.Test.YtjcaokajkkkniabExactValidBookLib1
import Derived.Test.YtjcaokajkkkniabExactValidBookEng1
set_option linter.unusedVariables false
set_option linter.unusedSimpArgs false
namespace Go.Vs



end Go.Vs
