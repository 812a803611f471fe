/- What the functions compute. -/
import Derived.Test.YtjcaokajkkkniacExactHashOfLib1
import Derived.Test.YtjcaokajkkkniacExactHashOfEng1
set_option linter.unusedVariables false
set_option linter.unusedSimpArgs false
namespace Go.Vs



end Go.Vs
