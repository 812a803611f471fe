/- What the functions compute. -/
import Derived.Test.YtaknnhnckdifiaaLibM5
set_option linter.unusedVariables false
set_option linter.unusedSimpArgs false
namespace Go.Vs



end Go.Vs
