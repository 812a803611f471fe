/- What the functions compute. -/
import Derived.Test.YtnkflplbeagljabMergeHitsThreeLib1
import Derived.Test.YtnkflplbeagljabMergeHitsThreeEng1
import Derived.Test.YtnkflplbeagljabMergeHitsThreeSrt1
set_option linter.unusedVariables false
set_option linter.unusedSimpArgs false
namespace Go.Vs



end Go.Vs
