/- What the functions compute. -/
import Derived.Test.YtdjjikmfkejdiaaNearestMoreLib1
import Derived.Test.YtdjjikmfkejdiaaNearestMoreEng2
import Derived.Test.YtdjjikmfkejdiaaNearestMoreSrt1
set_option linter.unusedVariables false
set_option linter.unusedSimpArgs false
namespace Go.Vs



end Go.Vs
