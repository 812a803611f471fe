/- What the functions compute. -/
import Derived.Test.YtnkflplbeagljabRecallOfNearestLib1
import Derived.Test.YtnkflplbeagljabRecallOfNearestEng2
import Derived.Test.YtnkflplbeagljabRecallOfNearestSrt1
set_option linter.unusedVariables false
set_option linter.unusedSimpArgs false
namespace Go.Vs



end Go.Vs
