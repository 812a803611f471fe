/- What the functions compute. -/
import Derived.Test.YtdjjikmfkejdiadTreeVisitsOwnLib1
import Derived.Test.YtdjjikmfkejdiadTreeVisitsOwnEng1
import Derived.Test.YtdjjikmfkejdiadTreeVisitsOwnSrt1
import Derived.Test.YtdjjikmfkejdiadTreeVisitsOwnEng2
set_option linter.unusedVariables false
set_option linter.unusedSimpArgs false
namespace Go.Vs



end Go.Vs
