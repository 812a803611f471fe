/- What the functions compute. -/
import Derived.Test.YtjcaokajkkkniaaValidBookLib1
import Derived.Test.YtjcaokajkkkniaaValidBookEng1
set_option linter.unusedVariables false
set_option linter.unusedSimpArgs false
namespace Go.Vs



end Go.Vs
