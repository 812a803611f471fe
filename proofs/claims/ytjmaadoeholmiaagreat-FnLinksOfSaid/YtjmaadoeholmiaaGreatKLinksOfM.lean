/- What the functions compute. -/
import Derived.Test.YtjmaadoeholmiaaGreatLinksOfLib1
import Derived.Test.YtjmaadoeholmiaaGreatLinksOfEng2
import Derived.Test.YtjmaadoeholmiaaGreatLinksOfSrt1
set_option linter.unusedVariables false
set_option linter.unusedSimpArgs false
namespace Go.Vs



end Go.Vs
