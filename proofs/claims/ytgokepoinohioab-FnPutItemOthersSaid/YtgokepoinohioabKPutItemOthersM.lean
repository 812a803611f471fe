/- What the functions compute. -/
import Derived.Test.YtgokepoinohioabPutItemOthersLib1
import Derived.Test.YtgokepoinohioabPutItemOthersEng1
set_option linter.unusedVariables false
set_option linter.unusedSimpArgs false
namespace Go.Vs



end Go.Vs
