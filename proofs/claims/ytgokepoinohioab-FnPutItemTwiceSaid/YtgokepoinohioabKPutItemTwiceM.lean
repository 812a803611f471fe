/- What the functions compute. -/
import Derived.Test.YtgokepoinohioabPutItemTwiceLib1
import Derived.Test.YtgokepoinohioabPutItemTwiceEng1
set_option linter.unusedVariables false
set_option linter.unusedSimpArgs false
namespace Go.Vs



end Go.Vs
