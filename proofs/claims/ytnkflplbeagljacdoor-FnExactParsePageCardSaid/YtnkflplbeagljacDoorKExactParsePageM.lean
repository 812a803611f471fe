/- What the functions compute. -/
import Derived.Test.YtnkflplbeagljacDoorExactParsePageLib1
import Derived.Test.YtnkflplbeagljacDoorExactParsePageEng1
import Derived.Test.YtnkflplbeagljacDoorExactParsePageEng2
set_option linter.unusedVariables false
set_option linter.unusedSimpArgs false
namespace Go.Vs



end Go.Vs
