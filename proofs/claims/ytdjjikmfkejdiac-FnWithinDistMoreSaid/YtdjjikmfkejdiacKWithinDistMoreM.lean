/- What the functions compute. -/
import Derived.Test.YtdjjikmfkejdiacWithinDistMoreLib1
import Derived.Test.YtdjjikmfkejdiacWithinDistMoreEng2
import Derived.Test.YtdjjikmfkejdiacWithinDistMoreSrt1
set_option linter.unusedVariables false
set_option linter.unusedSimpArgs false
namespace Go.Vs



end Go.Vs
