/- What the functions compute. -/
import Derived.Test.YtgokepoinohioabDistanceOneLib1
import Derived.Test.YtgokepoinohioabDistanceOneEng1
set_option linter.unusedVariables false
set_option linter.unusedSimpArgs false
namespace Go.Vs



end Go.Vs
