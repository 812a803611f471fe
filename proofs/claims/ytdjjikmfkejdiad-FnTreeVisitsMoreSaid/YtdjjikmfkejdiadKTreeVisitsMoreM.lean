/- What the functions compute. -/
import Derived.Test.YtdjjikmfkejdiadTreeVisitsMoreLib1
import Derived.Test.YtdjjikmfkejdiadTreeVisitsMoreEng1
import Derived.Test.YtdjjikmfkejdiadTreeVisitsMoreSrt1
import Derived.Test.YtdjjikmfkejdiadTreeVisitsMoreEng2
set_option linter.unusedVariables false
set_option linter.unusedSimpArgs false
namespace Go.Vs



end Go.Vs
