/- What the functions compute. -/
import Derived.Test.YtanbdmdbfjonhaaExactMutualLinksLib1
import Derived.Test.YtanbdmdbfjonhaaExactMutualLinksEng1
import Derived.Test.YtanbdmdbfjonhaaExactMutualLinksEng2
import Derived.Test.YtanbdmdbfjonhaaExactMutualLinksSrt1
set_option linter.unusedVariables false
set_option linter.unusedSimpArgs false
namespace Go.Vs



end Go.Vs
