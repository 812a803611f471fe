/- What the functions compute. -/
import Derived.Test.YtjcaokajkkkniaaHashOfOppositeLib1
import Derived.Test.YtjcaokajkkkniaaHashOfOppositeEng1
set_option linter.unusedVariables false
set_option linter.unusedSimpArgs false
namespace Go.Vs



end Go.Vs
