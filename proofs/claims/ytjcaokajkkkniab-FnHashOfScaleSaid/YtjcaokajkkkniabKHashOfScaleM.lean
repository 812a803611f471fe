/- What the functions compute. -/
import Derived.Test.YtjcaokajkkkniabHashOfScaleLib1
import Derived.Test.YtjcaokajkkkniabHashOfScaleEng1
set_option linter.unusedVariables false
set_option linter.unusedSimpArgs false
namespace Go.Vs



end Go.Vs
