/- What the functions compute. -/
import Derived.Test.YtanbdmdbfjonhaaMutualLinksLib1
import Derived.Test.YtanbdmdbfjonhaaMutualLinksEng1
import Derived.Test.YtanbdmdbfjonhaaMutualLinksSrt1
import Derived.Test.YtanbdmdbfjonhaaMutualLinksEng2
set_option linter.unusedVariables false
set_option linter.unusedSimpArgs false
namespace Go.Vs



end Go.Vs
