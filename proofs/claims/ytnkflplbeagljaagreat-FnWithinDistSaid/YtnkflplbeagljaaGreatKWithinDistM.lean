/- What the functions compute. -/
import Derived.Test.YtnkflplbeagljaaGreatWithinDistLib1
import Derived.Test.YtnkflplbeagljaaGreatWithinDistEng2
import Derived.Test.YtnkflplbeagljaaGreatWithinDistSrt1
set_option linter.unusedVariables false
set_option linter.unusedSimpArgs false
namespace Go.Vs



end Go.Vs
