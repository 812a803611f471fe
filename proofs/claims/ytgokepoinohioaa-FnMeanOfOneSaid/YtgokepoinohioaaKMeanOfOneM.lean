/- What the functions compute. -/
import Derived.Test.YtgokepoinohioaaMeanOfOneLib1
import Derived.Test.YtgokepoinohioaaMeanOfOneEng1
import Derived.Test.YtgokepoinohioaaMeanOfOneEng2
set_option linter.unusedVariables false
set_option linter.unusedSimpArgs false
namespace Go.Vs



end Go.Vs
