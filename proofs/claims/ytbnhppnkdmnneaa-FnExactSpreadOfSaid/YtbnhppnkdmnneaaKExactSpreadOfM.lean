/- What the functions compute. -/
import Derived.Test.YtbnhppnkdmnneaaExactSpreadOfLib1
import Derived.Test.YtbnhppnkdmnneaaExactSpreadOfEng1
set_option linter.unusedVariables false
set_option linter.unusedSimpArgs false
namespace Go.Vs



end Go.Vs
