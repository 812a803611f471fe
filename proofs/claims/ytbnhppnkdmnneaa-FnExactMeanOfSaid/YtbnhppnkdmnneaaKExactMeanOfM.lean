/- What the functions compute. -/
import Derived.Test.YtbnhppnkdmnneaaExactMeanOfLib1
import Derived.Test.YtbnhppnkdmnneaaExactMeanOfEng1
set_option linter.unusedVariables false
set_option linter.unusedSimpArgs false
namespace Go.Vs



end Go.Vs
