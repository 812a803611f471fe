/- What the functions compute. -/
import Derived.Test.YtdjjikmfkejdiaaNearestOwnLib1
import Derived.Test.YtdjjikmfkejdiaaNearestOwnEng2
import Derived.Test.YtdjjikmfkejdiaaNearestOwnSrt1
set_option linter.unusedVariables false
set_option linter.unusedSimpArgs false
namespace Go.Vs



end Go.Vs
