/- What the functions compute. -/
import Derived.Test.YtanbdmdbfjonhaaMutualLinksClosestLib1
import Derived.Test.YtanbdmdbfjonhaaMutualLinksClosestEng1
import Derived.Test.YtanbdmdbfjonhaaMutualLinksClosestSrt1
import Derived.Test.YtanbdmdbfjonhaaMutualLinksClosestEng2
set_option linter.unusedVariables false
set_option linter.unusedSimpArgs false
namespace Go.Vs



end Go.Vs
