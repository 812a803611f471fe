/- What the functions compute. -/
import Derived.Test.YtanbdmdbfjonhaaMutualLinksMoreLib1
import Derived.Test.YtanbdmdbfjonhaaMutualLinksMoreEng1
import Derived.Test.YtanbdmdbfjonhaaMutualLinksMoreSrt1
import Derived.Test.YtanbdmdbfjonhaaMutualLinksMoreEng2
set_option linter.unusedVariables false
set_option linter.unusedSimpArgs false
namespace Go.Vs



end Go.Vs
