/- What the functions compute. -/
import Derived.Test.YtafocpclhkgmeaaInBoxOneLib1
import Derived.Test.YtafocpclhkgmeaaInBoxOneEng2
import Derived.Test.YtafocpclhkgmeaaInBoxOneSrt1
set_option linter.unusedVariables false
set_option linter.unusedSimpArgs false
namespace Go.Vs



end Go.Vs
