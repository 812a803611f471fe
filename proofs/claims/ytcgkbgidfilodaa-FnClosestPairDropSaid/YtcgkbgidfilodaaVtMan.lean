/- Contracts of library functions, proved by hand. -/
import Derived.Test.YtcgkbgidfilodaaVtView
set_option linter.unusedVariables false
set_option linter.unusedSimpArgs false
namespace Go.Vs
open Go
end Go.Vs
