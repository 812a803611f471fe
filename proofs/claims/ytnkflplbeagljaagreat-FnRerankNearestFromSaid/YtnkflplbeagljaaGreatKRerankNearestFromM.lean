/- What the functions compute. -/
import Derived.Test.YtnkflplbeagljaaGreatRerankNearestFromLib1
import Derived.Test.YtnkflplbeagljaaGreatRerankNearestFromEng2
import Derived.Test.YtnkflplbeagljaaGreatRerankNearestFromSrt1
set_option linter.unusedVariables false
set_option linter.unusedSimpArgs false
namespace Go.Vs



end Go.Vs
