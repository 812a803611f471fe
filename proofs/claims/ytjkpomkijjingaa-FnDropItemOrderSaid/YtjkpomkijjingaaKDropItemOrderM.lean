/- What the functions compute. -/
import Derived.Test.YtjkpomkijjingaaLibM7
import Derived.Test.YtjkpomkijjingaaVtView
set_option linter.unusedVariables false
set_option linter.unusedSimpArgs false
namespace Go.Vs



end Go.Vs
