/- What the functions compute. -/
import Derived.Test.YtnkflplbeagljaaValidHitsLib1
import Derived.Test.YtnkflplbeagljaaValidHitsEng1
set_option linter.unusedVariables false
set_option linter.unusedSimpArgs false
namespace Go.Vs



end Go.Vs
