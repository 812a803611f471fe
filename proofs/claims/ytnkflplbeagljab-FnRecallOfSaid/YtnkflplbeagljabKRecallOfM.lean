/- What the functions compute. -/
import Derived.Test.YtnkflplbeagljabRecallOfLib1
import Derived.Test.YtnkflplbeagljabRecallOfEng1
set_option linter.unusedVariables false
set_option linter.unusedSimpArgs false
namespace Go.Vs



end Go.Vs
