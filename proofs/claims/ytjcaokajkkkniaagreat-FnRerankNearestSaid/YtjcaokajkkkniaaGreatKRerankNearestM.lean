/- What the functions compute. -/
import Derived.Test.YtjcaokajkkkniaaGreatRerankNearestLib1
import Derived.Test.YtjcaokajkkkniaaGreatRerankNearestEng2
import Derived.Test.YtjcaokajkkkniaaGreatRerankNearestSrt1
set_option linter.unusedVariables false
set_option linter.unusedSimpArgs false
namespace Go.Vs



end Go.Vs
