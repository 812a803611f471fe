/- What the functions compute. -/
import Derived.Test.YtjcaokajkkkniabEncodeVectorHalvesLib1
import Derived.Test.YtjcaokajkkkniabEncodeVectorHalvesEng1
set_option linter.unusedVariables false
set_option linter.unusedSimpArgs false
namespace Go.Vs



end Go.Vs
