/- What the functions compute. -/
import Derived.Test.YtbbddfckcpfoaaaGreatLinksOfLib1
import Derived.Test.YtbbddfckcpfoaaaGreatLinksOfEng2
import Derived.Test.YtbbddfckcpfoaaaGreatLinksOfSrt1
set_option linter.unusedVariables false
set_option linter.unusedSimpArgs false
namespace Go.Vs



end Go.Vs
