/- What the functions compute. -/
import Derived.Test.YtbpbncjammigdaaGreatAl
import Derived.Test.YtbpbncjammigdaaGreatLib1
import Derived.Test.YtbpbncjammigdaaGreatEng2
import Derived.Test.YtbpbncjammigdaaGreatSrt1
set_option linter.unusedVariables false
set_option linter.unusedSimpArgs false
namespace Go.Vs
end Go.Vs
