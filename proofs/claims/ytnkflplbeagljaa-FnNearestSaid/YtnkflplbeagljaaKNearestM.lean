/- What the functions compute. -/
import Derived.Test.YtnkflplbeagljaaNearestLib1
import Derived.Test.YtnkflplbeagljaaNearestEng2
import Derived.Test.YtnkflplbeagljaaNearestSrt1
set_option linter.unusedVariables false
set_option linter.unusedSimpArgs false
namespace Go.Vs



end Go.Vs
