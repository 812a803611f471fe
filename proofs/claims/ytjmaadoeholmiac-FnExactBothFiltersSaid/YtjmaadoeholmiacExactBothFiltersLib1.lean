/- What the functions compute. -/
import Derived.Test.YtjmaadoeholmiacExactBothFiltersEng1
import Derived.Test.YtjmaadoeholmiacExactBothFiltersSrt1
set_option linter.unusedVariables false
set_option linter.unusedSimpArgs false
namespace Go.Vs

noncomputable def M.spec_inRange (n_0 : Int) (low_1 : Int) (high_2 : Int) : Option Bool :=
  (bif decide (low_1 ≤ n_0) then
  some (decide (n_0 ≤ high_2))
 else
  some false)

noncomputable def M.impl_validTags (tags_0 : Int) : Option Bool :=
  (bif decide (0 ≤ tags_0) then
  some (decide (tags_0 ≤ 15))
 else
  some false)

end Go.Vs

namespace Go.Vs

end Go.Vs

namespace Go.Vs

end Go.Vs

namespace Go.Vs

end Go.Vs

namespace Go.Vs

end Go.Vs

namespace Go.Vs

end Go.Vs

namespace Go.Vs

end Go.Vs

namespace Go.Vs

end Go.Vs

namespace Go.Vs

end Go.Vs

namespace Go.Vs

end Go.Vs

namespace Go.Vs

end Go.Vs

namespace Go.Vs

end Go.Vs

namespace Go.Vs

end Go.Vs

namespace Go.Vs

end Go.Vs

namespace Go.Vs

end Go.Vs

namespace Go.Vs

end Go.Vs

namespace Go.Vs

end Go.Vs

namespace Go.Vs

end Go.Vs

namespace Go.Vs

end Go.Vs

namespace Go.Vs

end Go.Vs

namespace Go.Vs

end Go.Vs

namespace Go.Vs

end Go.Vs

namespace Go.Vs

noncomputable def M.spec_validFilter (f_0 : Int × Int × Int) : Option Bool :=
  (M.spec_inRange f_0.1 0 15).bind fun r4 =>
  (bif r4 then
  (M.spec_inRange f_0.2.1 0 15).bind fun r10 =>
  (bif r10 then
  (M.spec_inRange f_0.2.2 0 15).bind fun r16 =>
  some r16
 else
  some false)
 else
  some false)

noncomputable def M.spec_BothFilters (f_0 : Int × Int × Int) (g_1 : Int × Int × Int) : Option ((Int × Int × Int) × Bool) :=
  Option.bind ((M.spec_validFilter (f_0.1, f_0.2.1, f_0.2.2)).bind fun r9 =>
  (bif !r9 then
  some true
 else
  (M.spec_validFilter (g_1.1, g_1.2.1, g_1.2.2)).bind fun r15 =>
  (bif !r15 then
  some true
 else
  (bif f_0.2.2 != 0 then
  some (g_1.2.2 != 0)
 else
  some false)))) fun o7 =>
  (bif o7 then
  some ((0, 0, 0), false)
 else
  some ((gor f_0.1 g_1.1, gor f_0.2.1 g_1.2.1, gor f_0.2.2 g_1.2.2), true))

noncomputable def M.laws_toFilter (a_0 : Int × Int × Int) : Option ((Int × Int × Int)) :=
  some (a_0.1, a_0.2.1, a_0.2.2)

noncomputable def M.laws_eqFilter (a_0 : Int × Int × Int) (b_1 : Int × Int × Int) : Option Bool :=
  (bif a_0.1 != b_1.1 then
  some false
 else
  (bif a_0.2.1 != b_1.2.1 then
  some false
 else
  (bif a_0.2.2 != b_1.2.2 then
  some false
 else
  some true)))

end Go.Vs

namespace Go.Vs

end Go.Vs

namespace Go.Vs

end Go.Vs

namespace Go.Vs

noncomputable def M.impl_ValidFilter (f_0 : Int × Int × Int) : Option Bool :=
  (M.impl_validTags f_0.1).bind fun r4 =>
  (bif r4 then
  (M.impl_validTags f_0.2.1).bind fun r10 =>
  (bif r10 then
  (M.impl_validTags f_0.2.2).bind fun r16 =>
  some r16
 else
  some false)
 else
  some false)

noncomputable def M.impl_BothFilters (f_0 : Int × Int × Int) (g_1 : Int × Int × Int) : Option ((Int × Int × Int) × Bool) :=
  Option.bind ((M.impl_ValidFilter (f_0.1, f_0.2.1, f_0.2.2)).bind fun r9 =>
  (bif !r9 then
  some true
 else
  (M.impl_ValidFilter (g_1.1, g_1.2.1, g_1.2.2)).bind fun r15 =>
  (bif !r15 then
  some true
 else
  (bif f_0.2.2 != 0 then
  some (g_1.2.2 != 0)
 else
  some false)))) fun o7 =>
  (bif o7 then
  some ((0, 0, 0), false)
 else
  some ((gor f_0.1 g_1.1, gor f_0.2.1 g_1.2.1, gor f_0.2.2 g_1.2.2), true))

noncomputable def M.laws_FnExactBothFilters (aF_0 : Int × Int × Int) (aG_1 : Int × Int × Int) : Option Bool :=
  (M.laws_toFilter (aF_0.1, aF_0.2.1, aF_0.2.2)).bind fun r6 =>
  (M.laws_toFilter (aG_1.1, aG_1.2.1, aG_1.2.2)).bind fun r10 =>
  (M.spec_BothFilters (r6.1, r6.2.1, r6.2.2) (r10.1, r10.2.1, r10.2.2)).bind fun r13 =>
  (M.laws_toFilter (aF_0.1, aF_0.2.1, aF_0.2.2)).bind fun r19 =>
  (M.laws_toFilter (aG_1.1, aG_1.2.1, aG_1.2.2)).bind fun r23 =>
  (M.impl_BothFilters (r19.1, r19.2.1, r19.2.2) (r23.1, r23.2.1, r23.2.2)).bind fun r26 =>
  Option.bind ((M.laws_eqFilter (r26.1.1, r26.1.2.1, r26.1.2.2) (r13.1.1, r13.1.2.1, r13.1.2.2)).bind fun r34 =>
  (bif !r34 then
  some true
 else
  some (r26.2 != r13.2))) fun o31 =>
  (bif o31 then
  some false
 else
  some true)

end Go.Vs

namespace Go.Vs

end Go.Vs

namespace Go.Vs

end Go.Vs
