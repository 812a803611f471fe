/- What the functions compute. -/
import Derived.Test.YtbnhppnkdmnneaaExactListsOfLib1
import Derived.Test.YtbnhppnkdmnneaaExactListsOfEng1
import Derived.Test.YtbnhppnkdmnneaaExactListsOfEng2
set_option linter.unusedVariables false
set_option linter.unusedSimpArgs false
namespace Go.Vs



end Go.Vs
