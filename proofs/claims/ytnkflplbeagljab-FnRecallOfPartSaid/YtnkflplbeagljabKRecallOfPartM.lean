/- What the functions compute. -/
import Derived.Test.YtnkflplbeagljabRecallOfPartLib1
import Derived.Test.YtnkflplbeagljabRecallOfPartEng1
set_option linter.unusedVariables false
set_option linter.unusedSimpArgs false
namespace Go.Vs



end Go.Vs
