/- What the functions compute. -/
import Derived.Test.YtdjjikmfkejdiacNearestDropLib1
import Derived.Test.YtdjjikmfkejdiacNearestDropEng2
import Derived.Test.YtdjjikmfkejdiacNearestDropSrt1
set_option linter.unusedVariables false
set_option linter.unusedSimpArgs false
namespace Go.Vs



end Go.Vs
