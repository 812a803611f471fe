/- What the functions compute. -/
import Derived.Test.YtanbdmdbfjonhaaFilterStoreTwiceLib1
import Derived.Test.YtanbdmdbfjonhaaFilterStoreTwiceEng1
set_option linter.unusedVariables false
set_option linter.unusedSimpArgs false
namespace Go.Vs



end Go.Vs
