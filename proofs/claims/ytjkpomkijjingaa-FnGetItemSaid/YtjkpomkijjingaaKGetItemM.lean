/- What the functions compute. -/
import Derived.Test.YtjkpomkijjingaaLibM6
import Derived.Test.YtjkpomkijjingaaVtKind
set_option linter.unusedVariables false
set_option linter.unusedSimpArgs false
namespace Go.Vs



end Go.Vs
