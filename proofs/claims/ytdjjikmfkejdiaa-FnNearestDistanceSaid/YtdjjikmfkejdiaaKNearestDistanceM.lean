/- What the functions compute. -/
import Derived.Test.YtdjjikmfkejdiaaNearestDistanceLib1
import Derived.Test.YtdjjikmfkejdiaaNearestDistanceEng2
import Derived.Test.YtdjjikmfkejdiaaNearestDistanceSrt1
set_option linter.unusedVariables false
set_option linter.unusedSimpArgs false
namespace Go.Vs



end Go.Vs
