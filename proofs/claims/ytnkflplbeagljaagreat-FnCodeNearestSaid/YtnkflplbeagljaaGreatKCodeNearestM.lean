/- What the functions compute. -/
import Derived.Test.YtnkflplbeagljaaGreatCodeNearestLib1
import Derived.Test.YtnkflplbeagljaaGreatCodeNearestEng2
import Derived.Test.YtnkflplbeagljaaGreatCodeNearestSrt1
set_option linter.unusedVariables false
set_option linter.unusedSimpArgs false
namespace Go.Vs



end Go.Vs
