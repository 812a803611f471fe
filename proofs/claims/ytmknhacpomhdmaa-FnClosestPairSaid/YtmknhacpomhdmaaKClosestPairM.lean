/- What the functions compute. -/
import Derived.Test.YtmknhacpomhdmaaLibM6
import Derived.Test.YtmknhacpomhdmaaVtKind
set_option linter.unusedVariables false
set_option linter.unusedSimpArgs false
namespace Go.Vs



end Go.Vs
