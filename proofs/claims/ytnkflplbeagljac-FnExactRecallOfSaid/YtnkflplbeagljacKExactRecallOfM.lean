/- What the functions compute. -/
import Derived.Test.YtnkflplbeagljacExactRecallOfLib1
import Derived.Test.YtnkflplbeagljacExactRecallOfEng1
set_option linter.unusedVariables false
set_option linter.unusedSimpArgs false
namespace Go.Vs



end Go.Vs
