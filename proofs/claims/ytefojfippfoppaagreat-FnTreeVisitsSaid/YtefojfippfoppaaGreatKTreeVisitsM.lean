/- What the functions compute. -/
import Derived.Test.YtefojfippfoppaaGreatTreeVisitsLib1
import Derived.Test.YtefojfippfoppaaGreatTreeVisitsEng2
import Derived.Test.YtefojfippfoppaaGreatTreeVisitsSrt1
set_option linter.unusedVariables false
set_option linter.unusedSimpArgs false
namespace Go.Vs



end Go.Vs
