/- What the functions compute. -/
import Derived.Test.YtjmaadoeholmiabBothFiltersOrderEng1
import Derived.Test.YtjmaadoeholmiabBothFiltersOrderSrt1
set_option linter.unusedVariables false
set_option linter.unusedSimpArgs false
namespace Go.Vs

noncomputable def M.spec_reader_pick (r_0 : (List UInt8) × Int) (n_1 : Int) : Option (Int × ((List UInt8) × Int)) :=
  Option.bind ((bif decide (n_1 < 1) then
  some true
 else
  some ((r_0.1.length : Int) == 0))) fun o5 =>
  (bif o5 then
  some (0, (r_0.1, w64 (r_0.2 + 1)))
 else
  (bif decide ((w64 ((w64 (r_0.2 + 1)) - 1)) < (r_0.1.length : Int)) then
  (gidx r_0.1 (w64 ((w64 (r_0.2 + 1)) - 1))).bind fun x12 =>
  (grem (w64 (x12.toNat : Int)) n_1).bind fun q17 =>
  some (q17, (r_0.1, w64 (r_0.2 + 1)))
 else
  (grem (w64 ((w64 (r_0.2 + 1)) - 1)) (r_0.1.length : Int)).bind fun q19 =>
  (gidx r_0.1 q19).bind fun x21 =>
  (grem (w64 ((w64 ((w64 ((w64 (r_0.2 + 1)) - 1)) * 7)) + 3)) (r_0.1.length : Int)).bind fun q26 =>
  (gidx r_0.1 q26).bind fun x28 =>
  (gquo (w64 ((w64 (r_0.2 + 1)) - 1)) (r_0.1.length : Int)).bind fun q33 =>
  (grem (gxor (w64 ((w64 ((w64 ((w64 ((w64 (x21.toNat : Int)) * 131)) + (w64 ((w64 (x28.toNat : Int)) * 1117)))) + (w64 ((w64 ((w64 (r_0.2 + 1)) - 1)) * 29)))) + (w64 (q33 * 53)))) (w64 ((w64 ((w64 ((w64 ((w64 ((w64 (x21.toNat : Int)) * 131)) + (w64 ((w64 (x28.toNat : Int)) * 1117)))) + (w64 ((w64 ((w64 (r_0.2 + 1)) - 1)) * 29)))) + (w64 (q33 * 53)))).tdiv 64))) n_1).bind fun q36 =>
  some (q36, (r_0.1, w64 (r_0.2 + 1)))))

noncomputable def M.spec_reader_one (r_0 : (List UInt8) × Int) (list_1 : List Int) : Option (Int × ((List UInt8) × Int)) :=
  (M.spec_reader_pick (r_0.1, r_0.2) (list_1.length : Int)).bind fun r1 =>
  (gidx list_1 r1.1).bind fun x9 =>
  some (x9, (r1.2.1, r1.2.2))

noncomputable def M.spec_newReader (code_0 : List UInt8) : Option (((List UInt8) × Int)) :=
  Option.bind ((bif decide (2000 < (code_0.length : Int)) then
  (gslice code_0 0 2000).bind fun xs3 =>
  some xs3
 else
  some code_0)) fun o1 =>
  some (o1, 0)

noncomputable def M.spec_inRange (n_0 : Int) (low_1 : Int) (high_2 : Int) : Option Bool :=
  (bif decide (low_1 ≤ n_0) then
  some (decide (n_0 ≤ high_2))
 else
  some false)

noncomputable def M.impl_validTags (tags_0 : Int) : Option Bool :=
  (bif decide (0 ≤ tags_0) then
  some (decide (tags_0 ≤ 15))
 else
  some false)

end Go.Vs

namespace Go.Vs

end Go.Vs

namespace Go.Vs

end Go.Vs

namespace Go.Vs

end Go.Vs

namespace Go.Vs

end Go.Vs

namespace Go.Vs

end Go.Vs

namespace Go.Vs

end Go.Vs

namespace Go.Vs

end Go.Vs

namespace Go.Vs

end Go.Vs

namespace Go.Vs

end Go.Vs

namespace Go.Vs

end Go.Vs

namespace Go.Vs

end Go.Vs

namespace Go.Vs

end Go.Vs

namespace Go.Vs

end Go.Vs

namespace Go.Vs

end Go.Vs

namespace Go.Vs

end Go.Vs

namespace Go.Vs

end Go.Vs

namespace Go.Vs

end Go.Vs

namespace Go.Vs

end Go.Vs

namespace Go.Vs

end Go.Vs

namespace Go.Vs

end Go.Vs

namespace Go.Vs

end Go.Vs

namespace Go.Vs

noncomputable def M.spec_anyFilter (r_0 : (List UInt8) × Int) : Option ((Int × Int × Int) × ((List UInt8) × Int)) :=
  (M.spec_reader_one (r_0.1, r_0.2) ([0, 1, 2, 0, 4, 3] : List Int)).bind fun r7 =>
  (M.spec_reader_one (r7.2.1, r7.2.2) ([0, 8, 1, 0, 2] : List Int)).bind fun r17 =>
  (M.spec_reader_one (r17.2.1, r17.2.2) ([0, 0, 3, 12, 15] : List Int)).bind fun r27 =>
  (M.spec_reader_pick (r27.2.1, r27.2.2) 16).bind fun r36 =>
  Option.bind ((bif r36.1 == 0 then
  (M.spec_reader_one (r36.2.1, r36.2.2) ([-1, 16] : List Int)).bind fun r48 =>
  some ((r48.2.1, r48.2.2), (r7.1, r17.1, r48.1))
 else
  some ((r36.2.1, r36.2.2), (r7.1, r17.1, r27.1)))) fun o42 =>
  some ((o42.2.1, o42.2.2.1, o42.2.2.2), (o42.1.1, o42.1.2))

noncomputable def M.spec_DrawBothFilters (code_0 : List UInt8) : Option ((Int × Int × Int) × (Int × Int × Int)) :=
  (M.spec_newReader code_0).bind fun r5 =>
  (M.spec_anyFilter (r5.1, r5.2)).bind fun r12 =>
  (M.spec_anyFilter (r12.2.1, r12.2.2)).bind fun r22 =>
  some ((r12.1.1, r12.1.2.1, r12.1.2.2), (r22.1.1, r22.1.2.1, r22.1.2.2))

noncomputable def M.spec_validFilter (f_0 : Int × Int × Int) : Option Bool :=
  (M.spec_inRange f_0.1 0 15).bind fun r4 =>
  (bif r4 then
  (M.spec_inRange f_0.2.1 0 15).bind fun r10 =>
  (bif r10 then
  (M.spec_inRange f_0.2.2 0 15).bind fun r16 =>
  some r16
 else
  some false)
 else
  some false)

noncomputable def M.spec_BothFilters (f_0 : Int × Int × Int) (g_1 : Int × Int × Int) : Option ((Int × Int × Int) × Bool) :=
  Option.bind ((M.spec_validFilter (f_0.1, f_0.2.1, f_0.2.2)).bind fun r9 =>
  (bif !r9 then
  some true
 else
  (M.spec_validFilter (g_1.1, g_1.2.1, g_1.2.2)).bind fun r15 =>
  (bif !r15 then
  some true
 else
  (bif f_0.2.2 != 0 then
  some (g_1.2.2 != 0)
 else
  some false)))) fun o7 =>
  (bif o7 then
  some ((0, 0, 0), false)
 else
  some ((gor f_0.1 g_1.1, gor f_0.2.1 g_1.2.1, gor f_0.2.2 g_1.2.2), true))

end Go.Vs

namespace Go.Vs

end Go.Vs

namespace Go.Vs

end Go.Vs

namespace Go.Vs

noncomputable def M.impl_ValidFilter (f_0 : Int × Int × Int) : Option Bool :=
  (M.impl_validTags f_0.1).bind fun r4 =>
  (bif r4 then
  (M.impl_validTags f_0.2.1).bind fun r10 =>
  (bif r10 then
  (M.impl_validTags f_0.2.2).bind fun r16 =>
  some r16
 else
  some false)
 else
  some false)

noncomputable def M.impl_BothFilters (f_0 : Int × Int × Int) (g_1 : Int × Int × Int) : Option ((Int × Int × Int) × Bool) :=
  Option.bind ((M.impl_ValidFilter (f_0.1, f_0.2.1, f_0.2.2)).bind fun r9 =>
  (bif !r9 then
  some true
 else
  (M.impl_ValidFilter (g_1.1, g_1.2.1, g_1.2.2)).bind fun r15 =>
  (bif !r15 then
  some true
 else
  (bif f_0.2.2 != 0 then
  some (g_1.2.2 != 0)
 else
  some false)))) fun o7 =>
  (bif o7 then
  some ((0, 0, 0), false)
 else
  some ((gor f_0.1 g_1.1, gor f_0.2.1 g_1.2.1, gor f_0.2.2 g_1.2.2), true))

noncomputable def M.laws_FnBothFiltersOrder (code_0 : List UInt8) : Option Bool :=
  (bif decide (1048576 < (code_0.length : Int)) then
  some true
 else
  (M.spec_DrawBothFilters code_0).bind fun r2 =>
  (M.impl_BothFilters (r2.1.1, r2.1.2.1, r2.1.2.2) (r2.2.1, r2.2.2.1, r2.2.2.2)).bind fun r14 =>
  (M.spec_BothFilters (r2.1.1, r2.1.2.1, r2.1.2.2) (r2.2.1, r2.2.2.1, r2.2.2.2)).bind fun r23 =>
  Option.bind ((bif !(([r14.1.1, r14.1.2.1, r14.1.2.2] : List Int) == ([r23.1.1, r23.1.2.1, r23.1.2.2] : List Int)) then
  some true
 else
  (bif r14.2 != r23.2 then
  some true
 else
  some (!r14.2)))) fun o30 =>
  (bif o30 then
  (bif ([r14.1.1, r14.1.2.1, r14.1.2.2] : List Int) == ([r23.1.1, r23.1.2.1, r23.1.2.2] : List Int) then
  some (r14.2 == r23.2)
 else
  some false)
 else
  (M.impl_BothFilters (r2.2.1, r2.2.2.1, r2.2.2.2) (r2.1.1, r2.1.2.1, r2.1.2.2)).bind fun r42 =>
  (M.impl_BothFilters (r2.1.1, r2.1.2.1, r2.1.2.2) (0, 0, 0)).bind fun r50 =>
  (bif r42.2 then
  (bif ([r42.1.1, r42.1.2.1, r42.1.2.2] : List Int) == ([r14.1.1, r14.1.2.1, r14.1.2.2] : List Int) then
  (bif r50.2 then
  some (([r50.1.1, r50.1.2.1, r50.1.2.2] : List Int) == ([r2.1.1, r2.1.2.1, r2.1.2.2] : List Int))
 else
  some false)
 else
  some false)
 else
  some false)))

end Go.Vs

namespace Go.Vs

end Go.Vs
