/- What the functions compute. -/
import Derived.Test.YtjcaokajkkkniabDecodeVectorAllLib1
import Derived.Test.YtjcaokajkkkniabDecodeVectorAllEng1
set_option linter.unusedVariables false
set_option linter.unusedSimpArgs false
namespace Go.Vs



end Go.Vs
