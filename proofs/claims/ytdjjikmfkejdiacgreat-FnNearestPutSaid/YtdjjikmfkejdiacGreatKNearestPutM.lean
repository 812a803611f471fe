/- What the functions compute. -/
import Derived.Test.YtdjjikmfkejdiacGreatNearestPutLib1
import Derived.Test.YtdjjikmfkejdiacGreatNearestPutEng2
import Derived.Test.YtdjjikmfkejdiacGreatNearestPutSrt1
set_option linter.unusedVariables false
set_option linter.unusedSimpArgs false
namespace Go.Vs



end Go.Vs
