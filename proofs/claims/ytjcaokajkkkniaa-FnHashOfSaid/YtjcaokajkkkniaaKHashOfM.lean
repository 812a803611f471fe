/- What the functions compute. -/
import Derived.Test.YtjcaokajkkkniaaHashOfLib1
import Derived.Test.YtjcaokajkkkniaaHashOfEng1
set_option linter.unusedVariables false
set_option linter.unusedSimpArgs false
namespace Go.Vs



end Go.Vs
