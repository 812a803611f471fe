/- What the functions compute. -/
import Derived.Test.YtnkflplbeagljaaGreatHashNearestRecallLib1
import Derived.Test.YtnkflplbeagljaaGreatHashNearestRecallEng2
import Derived.Test.YtnkflplbeagljaaGreatHashNearestRecallSrt1
set_option linter.unusedVariables false
set_option linter.unusedSimpArgs false
namespace Go.Vs



end Go.Vs
