/- What the functions compute. -/
import Derived.Test.YtjmaadoeholmiaaPassesBitsEng1
import Derived.Test.YtjmaadoeholmiaaPassesBitsSrt1
set_option linter.unusedVariables false
set_option linter.unusedSimpArgs false
namespace Go.Vs

noncomputable def M.spec_reader_pick (r_0 : (List UInt8) × Int) (n_1 : Int) : Option (Int × ((List UInt8) × Int)) :=
  Option.bind ((bif decide (n_1 < 1) then
  some true
 else
  some ((r_0.1.length : Int) == 0))) fun o5 =>
  (bif o5 then
  some (0, (r_0.1, w64 (r_0.2 + 1)))
 else
  (bif decide ((w64 ((w64 (r_0.2 + 1)) - 1)) < (r_0.1.length : Int)) then
  (gidx r_0.1 (w64 ((w64 (r_0.2 + 1)) - 1))).bind fun x12 =>
  (grem (w64 (x12.toNat : Int)) n_1).bind fun q17 =>
  some (q17, (r_0.1, w64 (r_0.2 + 1)))
 else
  (grem (w64 ((w64 (r_0.2 + 1)) - 1)) (r_0.1.length : Int)).bind fun q19 =>
  (gidx r_0.1 q19).bind fun x21 =>
  (grem (w64 ((w64 ((w64 ((w64 (r_0.2 + 1)) - 1)) * 7)) + 3)) (r_0.1.length : Int)).bind fun q26 =>
  (gidx r_0.1 q26).bind fun x28 =>
  (gquo (w64 ((w64 (r_0.2 + 1)) - 1)) (r_0.1.length : Int)).bind fun q33 =>
  (grem (gxor (w64 ((w64 ((w64 ((w64 ((w64 (x21.toNat : Int)) * 131)) + (w64 ((w64 (x28.toNat : Int)) * 1117)))) + (w64 ((w64 ((w64 (r_0.2 + 1)) - 1)) * 29)))) + (w64 (q33 * 53)))) (w64 ((w64 ((w64 ((w64 ((w64 ((w64 (x21.toNat : Int)) * 131)) + (w64 ((w64 (x28.toNat : Int)) * 1117)))) + (w64 ((w64 ((w64 (r_0.2 + 1)) - 1)) * 29)))) + (w64 (q33 * 53)))).tdiv 64))) n_1).bind fun q36 =>
  some (q36, (r_0.1, w64 (r_0.2 + 1)))))

noncomputable def M.spec_reader_one (r_0 : (List UInt8) × Int) (list_1 : List Int) : Option (Int × ((List UInt8) × Int)) :=
  (M.spec_reader_pick (r_0.1, r_0.2) (list_1.length : Int)).bind fun r1 =>
  (gidx list_1 r1.1).bind fun x9 =>
  some (x9, (r1.2.1, r1.2.2))

noncomputable def M.spec_newReader (code_0 : List UInt8) : Option (((List UInt8) × Int)) :=
  Option.bind ((bif decide (2000 < (code_0.length : Int)) then
  (gslice code_0 0 2000).bind fun xs3 =>
  some xs3
 else
  some code_0)) fun o1 =>
  some (o1, 0)

noncomputable def M.spec_inRange (n_0 : Int) (low_1 : Int) (high_2 : Int) : Option Bool :=
  (bif decide (low_1 ≤ n_0) then
  some (decide (n_0 ≤ high_2))
 else
  some false)

noncomputable def M.impl_validTags (tags_0 : Int) : Option Bool :=
  (bif decide (0 ≤ tags_0) then
  some (decide (tags_0 ≤ 15))
 else
  some false)

end Go.Vs

namespace Go.Vs

end Go.Vs

namespace Go.Vs

end Go.Vs

namespace Go.Vs

end Go.Vs

namespace Go.Vs

end Go.Vs

namespace Go.Vs

end Go.Vs

namespace Go.Vs

end Go.Vs

namespace Go.Vs

end Go.Vs

namespace Go.Vs

end Go.Vs

namespace Go.Vs

end Go.Vs

namespace Go.Vs

end Go.Vs

namespace Go.Vs

end Go.Vs

namespace Go.Vs

end Go.Vs

namespace Go.Vs

end Go.Vs

namespace Go.Vs

end Go.Vs

namespace Go.Vs

end Go.Vs

namespace Go.Vs

end Go.Vs

namespace Go.Vs

end Go.Vs

namespace Go.Vs

end Go.Vs

namespace Go.Vs

end Go.Vs

namespace Go.Vs

end Go.Vs

namespace Go.Vs

end Go.Vs

namespace Go.Vs

noncomputable def M.spec_anyFilter (r_0 : (List UInt8) × Int) : Option ((Int × Int × Int) × ((List UInt8) × Int)) :=
  (M.spec_reader_one (r_0.1, r_0.2) ([0, 1, 2, 0, 4, 3] : List Int)).bind fun r7 =>
  (M.spec_reader_one (r7.2.1, r7.2.2) ([0, 8, 1, 0, 2] : List Int)).bind fun r17 =>
  (M.spec_reader_one (r17.2.1, r17.2.2) ([0, 0, 3, 12, 15] : List Int)).bind fun r27 =>
  (M.spec_reader_pick (r27.2.1, r27.2.2) 16).bind fun r36 =>
  Option.bind ((bif r36.1 == 0 then
  (M.spec_reader_one (r36.2.1, r36.2.2) ([-1, 16] : List Int)).bind fun r48 =>
  some ((r48.2.1, r48.2.2), (r7.1, r17.1, r48.1))
 else
  some ((r36.2.1, r36.2.2), (r7.1, r17.1, r27.1)))) fun o42 =>
  some ((o42.2.1, o42.2.2.1, o42.2.2.2), (o42.1.1, o42.1.2))

noncomputable def M.spec_validFilter (f_0 : Int × Int × Int) : Option Bool :=
  (M.spec_inRange f_0.1 0 15).bind fun r4 =>
  (bif r4 then
  (M.spec_inRange f_0.2.1 0 15).bind fun r10 =>
  (bif r10 then
  (M.spec_inRange f_0.2.2 0 15).bind fun r16 =>
  some r16
 else
  some false)
 else
  some false)

noncomputable def M.spec_passes (f_0 : Int × Int × Int) (tags_1 : Int) : Option Bool :=
  (bif (gand tags_1 f_0.1) == f_0.1 then
  (bif (gand tags_1 f_0.2.1) == 0 then
  (bif f_0.2.2 == 0 then
  some true
 else
  some ((gand tags_1 f_0.2.2) != 0))
 else
  some false)
 else
  some false)

noncomputable def M.spec_ValidFilter (f_0 : Int × Int × Int) : Option Bool :=
  (M.spec_validFilter (f_0.1, f_0.2.1, f_0.2.2)).bind fun r4 =>
  some r4

noncomputable def M.spec_DrawPasses (code_0 : List UInt8) : Option ((Int × Int × Int) × Int) :=
  (M.spec_newReader code_0).bind fun r3 =>
  (M.spec_anyFilter (r3.1, r3.2)).bind fun r10 =>
  (M.spec_reader_pick (r10.2.1, r10.2.2) 18).bind fun r20 =>
  some ((r10.1.1, r10.1.2.1, r10.1.2.2), w64 (r20.1 - 1))

noncomputable def M.spec_Passes (f_0 : Int × Int × Int) (tags_1 : Int) : Option Bool :=
  (M.spec_validFilter (f_0.1, f_0.2.1, f_0.2.2)).bind fun r4 =>
  (bif r4 then
  (M.spec_inRange tags_1 0 15).bind fun r9 =>
  (bif r9 then
  (M.spec_passes (f_0.1, f_0.2.1, f_0.2.2) tags_1).bind fun r15 =>
  some r15
 else
  some false)
 else
  some false)

end Go.Vs

namespace Go.Vs

end Go.Vs

namespace Go.Vs

end Go.Vs

namespace Go.Vs

noncomputable def M.impl_ValidFilter (f_0 : Int × Int × Int) : Option Bool :=
  (M.impl_validTags f_0.1).bind fun r4 =>
  (bif r4 then
  (M.impl_validTags f_0.2.1).bind fun r10 =>
  (bif r10 then
  (M.impl_validTags f_0.2.2).bind fun r16 =>
  some r16
 else
  some false)
 else
  some false)

noncomputable def M.impl_tagMask_hasAll (m_0 : Int) (others_1 : Int) : Option Bool :=
  some ((gand m_0 others_1) == others_1)

noncomputable def M.impl_tagMask_hasAny (m_0 : Int) (others_1 : Int) : Option Bool :=
  some ((gand m_0 others_1) != 0)

noncomputable def M.impl_Filter_accepts (f_0 : Int × Int × Int) (tags_1 : Int) : Option Bool :=
  (M.impl_tagMask_hasAll tags_1 f_0.1).bind fun r4 =>
  (bif r4 then
  (M.impl_tagMask_hasAny tags_1 f_0.2.1).bind fun r10 =>
  (bif !r10 then
  (bif f_0.2.2 == 0 then
  some true
 else
  (M.impl_tagMask_hasAny tags_1 f_0.2.2).bind fun r18 =>
  some r18)
 else
  some false)
 else
  some false)

noncomputable def M.impl_Passes (f_0 : Int × Int × Int) (tags_1 : Int) : Option Bool :=
  (M.impl_ValidFilter (f_0.1, f_0.2.1, f_0.2.2)).bind fun r4 =>
  (bif r4 then
  (M.impl_validTags tags_1).bind fun r9 =>
  (bif r9 then
  (M.impl_Filter_accepts (f_0.1, f_0.2.1, f_0.2.2) tags_1).bind fun r15 =>
  some r15
 else
  some false)
 else
  some false)

noncomputable def M.laws_FnPassesBits (code_0 : List UInt8) : Option Bool :=
  (bif decide (1048576 < (code_0.length : Int)) then
  some true
 else
  (M.spec_DrawPasses code_0).bind fun r2 =>
  (M.impl_Passes (r2.1.1, r2.1.2.1, r2.1.2.2) r2.2).bind fun r10 =>
  Option.bind ((M.spec_Passes (r2.1.1, r2.1.2.1, r2.1.2.2) r2.2).bind fun r16 =>
  (bif r10 != r16 then
  some true
 else
  (M.impl_ValidFilter (r2.1.1, r2.1.2.1, r2.1.2.2)).bind fun r22 =>
  (bif !r22 then
  some true
 else
  (bif decide (r2.2 < 0) then
  some true
 else
  some (decide (15 < r2.2)))))) fun o14 =>
  (bif o14 then
  (M.spec_Passes (r2.1.1, r2.1.2.1, r2.1.2.2) r2.2).bind fun r31 =>
  some (r10 == r31)
 else
  Option.bind (loopM (fun (s37 : (Bool) × (Bool) × (Int)) => (bif decide (s37.2.2 ≤ 15) then
  (gquo r2.2 s37.2.2).bind fun q40 =>
  Option.bind ((gquo r2.1.1 s37.2.2).bind fun q44 =>
  (bif (q44.tmod 2) == 1 then
  (bif !((q40.tmod 2) == 1) then
  some true
 else
  (gquo r2.1.2.1 s37.2.2).bind fun q49 =>
  (bif (q49.tmod 2) == 1 then
  some ((q40.tmod 2) == 1)
 else
  some false))
 else
  (gquo r2.1.2.1 s37.2.2).bind fun q53 =>
  (bif (q53.tmod 2) == 1 then
  some ((q40.tmod 2) == 1)
 else
  some false))) fun o42 =>
  Option.bind ((bif o42 then
  some false
 else
  some s37.1)) fun o57 =>
  Option.bind ((bif s37.2.1 then
  some true
 else
  (gquo r2.1.2.2 s37.2.2).bind fun q63 =>
  (bif (q63.tmod 2) == 1 then
  some ((q40.tmod 2) == 1)
 else
  some false))) fun o60 =>
  some (.inl (o57, o60, w64 (2 * s37.2.2)))
 else
  some (.inr (s37.1, s37.2.1)))) (true, r2.1.2.2 == 0, 1)) fun o36 =>
  (bif o36.1 then
  some (r10 == o36.2)
 else
  some (r10 == false))))

end Go.Vs
