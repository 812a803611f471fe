/- What the functions compute. -/
import Derived.Test.YtgokepoinohioabDotOfZeroLib1
import Derived.Test.YtgokepoinohioabDotOfZeroEng1
set_option linter.unusedVariables false
set_option linter.unusedSimpArgs false
namespace Go.Vs



end Go.Vs
