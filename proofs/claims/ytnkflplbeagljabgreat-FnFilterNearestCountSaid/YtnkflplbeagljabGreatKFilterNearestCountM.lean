/- What the functions compute. -/
import Derived.Test.YtnkflplbeagljabGreatFilterNearestCountLib1
import Derived.Test.YtnkflplbeagljabGreatFilterNearestCountEng2
import Derived.Test.YtnkflplbeagljabGreatFilterNearestCountSrt1
set_option linter.unusedVariables false
set_option linter.unusedSimpArgs false
namespace Go.Vs



end Go.Vs
