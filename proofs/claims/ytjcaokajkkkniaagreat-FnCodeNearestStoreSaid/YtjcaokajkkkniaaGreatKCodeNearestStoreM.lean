/- What the functions compute. -/
import Derived.Test.YtjcaokajkkkniaaGreatCodeNearestStoreLib1
import Derived.Test.YtjcaokajkkkniaaGreatCodeNearestStoreEng2
import Derived.Test.YtjcaokajkkkniaaGreatCodeNearestStoreSrt1
set_option linter.unusedVariables false
set_option linter.unusedSimpArgs false
namespace Go.Vs



end Go.Vs
