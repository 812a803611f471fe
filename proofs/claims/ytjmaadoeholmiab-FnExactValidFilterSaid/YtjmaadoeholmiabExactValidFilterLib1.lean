/- What the functions compute. -/
import Derived.Test.YtjmaadoeholmiabExactValidFilterEng1
import Derived.Test.YtjmaadoeholmiabExactValidFilterSrt1
set_option linter.unusedVariables false
set_option linter.unusedSimpArgs false
namespace Go.Vs

noncomputable def M.spec_inRange (n_0 : Int) (low_1 : Int) (high_2 : Int) : Option Bool :=
  (bif decide (low_1 ≤ n_0) then
  some (decide (n_0 ≤ high_2))
 else
  some false)

noncomputable def M.impl_validTags (tags_0 : Int) : Option Bool :=
  (bif decide (0 ≤ tags_0) then
  some (decide (tags_0 ≤ 15))
 else
  some false)

end Go.Vs

namespace Go.Vs

end Go.Vs

namespace Go.Vs

end Go.Vs

namespace Go.Vs

end Go.Vs

namespace Go.Vs

end Go.Vs

namespace Go.Vs

end Go.Vs

namespace Go.Vs

end Go.Vs

namespace Go.Vs

end Go.Vs

namespace Go.Vs

end Go.Vs

namespace Go.Vs

end Go.Vs

namespace Go.Vs

end Go.Vs

namespace Go.Vs

end Go.Vs

namespace Go.Vs

end Go.Vs

namespace Go.Vs

end Go.Vs

namespace Go.Vs

end Go.Vs

namespace Go.Vs

end Go.Vs

namespace Go.Vs

end Go.Vs

namespace Go.Vs

end Go.Vs

namespace Go.Vs

end Go.Vs

namespace Go.Vs

end Go.Vs

namespace Go.Vs

end Go.Vs

namespace Go.Vs

end Go.Vs

namespace Go.Vs

noncomputable def M.spec_validFilter (f_0 : Int × Int × Int) : Option Bool :=
  (M.spec_inRange f_0.1 0 15).bind fun r4 =>
  (bif r4 then
  (M.spec_inRange f_0.2.1 0 15).bind fun r10 =>
  (bif r10 then
  (M.spec_inRange f_0.2.2 0 15).bind fun r16 =>
  some r16
 else
  some false)
 else
  some false)

noncomputable def M.laws_toFilter (a_0 : Int × Int × Int) : Option ((Int × Int × Int)) :=
  some (a_0.1, a_0.2.1, a_0.2.2)

noncomputable def M.spec_ValidFilter (f_0 : Int × Int × Int) : Option Bool :=
  (M.spec_validFilter (f_0.1, f_0.2.1, f_0.2.2)).bind fun r4 =>
  some r4

end Go.Vs

namespace Go.Vs

end Go.Vs

namespace Go.Vs

end Go.Vs

namespace Go.Vs

noncomputable def M.impl_ValidFilter (f_0 : Int × Int × Int) : Option Bool :=
  (M.impl_validTags f_0.1).bind fun r4 =>
  (bif r4 then
  (M.impl_validTags f_0.2.1).bind fun r10 =>
  (bif r10 then
  (M.impl_validTags f_0.2.2).bind fun r16 =>
  some r16
 else
  some false)
 else
  some false)

noncomputable def M.laws_FnExactValidFilter (aF_0 : Int × Int × Int) : Option Bool :=
  (M.laws_toFilter (aF_0.1, aF_0.2.1, aF_0.2.2)).bind fun r4 =>
  (M.spec_ValidFilter (r4.1, r4.2.1, r4.2.2)).bind fun r8 =>
  (M.laws_toFilter (aF_0.1, aF_0.2.1, aF_0.2.2)).bind fun r13 =>
  (M.impl_ValidFilter (r13.1, r13.2.1, r13.2.2)).bind fun r17 =>
  (bif r17 != r8 then
  some false
 else
  some true)

end Go.Vs

namespace Go.Vs

end Go.Vs
