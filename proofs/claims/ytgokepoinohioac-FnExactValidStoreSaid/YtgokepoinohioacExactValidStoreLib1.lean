/- What the functions compute. -/
import Derived.Test.YtgokepoinohioacExactValidStoreEng1
set_option linter.unusedVariables false
set_option linter.unusedSimpArgs false
namespace Go.Vs

noncomputable def M.impl_validCoords (coords_0 : List Int) : Option Bool :=
  Option.bind (loopM (fun (s2 : (Int)) => (bif decide (s2 < (coords_0.length : Int)) then
  (gidx coords_0 s2).bind fun x5 =>
  Option.bind ((bif decide (x5 < (-100)) then
  some true
 else
  some (decide (100 < x5)))) fun o11 =>
  (bif o11 then
  some (.inr (.inr false))
 else
  some (.inl (w64 (s2 + 1))))
 else
  some (.inr (.inl ())))) 0) (selim (fun t15 => some true)
   (fun t17 => some t17))

noncomputable def M.impl_ValidVector (v_0 : List Int) : Option Bool :=
  (bif (v_0.length : Int) == 4 then
  (M.impl_validCoords v_0).bind fun r2 =>
  some r2
 else
  some false)

noncomputable def M.spec_inRange (n_0 : Int) (low_1 : Int) (high_2 : Int) : Option Bool :=
  (bif decide (low_1 ≤ n_0) then
  some (decide (n_0 ≤ high_2))
 else
  some false)

noncomputable def M.spec_allIn (list_0 : List Int) (low_1 : Int) (high_2 : Int) : Option Bool :=
  Option.bind (loopM (fun (s2 : (Int)) => (bif decide (s2 < (list_0.length : Int)) then
  (gidx list_0 s2).bind fun x7 =>
  (M.spec_inRange x7 low_1 high_2).bind fun r12 =>
  (bif !r12 then
  some (.inr (.inr false))
 else
  some (.inl (w64 (s2 + 1))))
 else
  some (.inr (.inl ())))) 0) (selim (fun t17 => some true)
   (fun t19 => some t19))

noncomputable def M.spec_isVector (v_0 : List Int) : Option Bool :=
  (bif (v_0.length : Int) == 4 then
  (M.spec_allIn v_0 (-100) 100).bind fun r2 =>
  some r2
 else
  some false)

noncomputable def M.laws_equalInts (a_0 : List Int) (b_1 : List Int) : Option Bool :=
  (bif (a_0.length : Int) != (b_1.length : Int) then
  some false
 else
  Option.bind (loopM (fun (s3 : (Int)) => (bif decide (s3 < (a_0.length : Int)) then
  (gidx a_0 s3).bind fun x9 =>
  (gidx b_1 s3).bind fun x14 =>
  (bif x9 != x14 then
  some (.inr (.inr false))
 else
  some (.inl (w64 (s3 + 1))))
 else
  some (.inr (.inl ())))) 0) (selim (fun t21 => some true)
   (fun t23 => some t23)))

noncomputable def M.spec_validItem (x_0 : Int × (List Int) × Int) : Option Bool :=
  (M.spec_inRange x_0.1 1 99).bind fun r7 =>
  (bif r7 then
  (M.spec_isVector x_0.2.1).bind fun r13 =>
  (bif r13 then
  (M.spec_inRange x_0.2.2 0 15).bind fun r19 =>
  some r19
 else
  some false)
 else
  some false)

noncomputable def M.spec_validStore (list_0 : List (Int × (List Int) × Int)) : Option Bool :=
  Option.bind (loopM (fun (s2 : (Int)) => (bif decide (s2 < (list_0.length : Int)) then
  Option.bind ((gidx list_0 s2).bind fun x8 =>
  (M.spec_validItem (x8.1, x8.2.1, x8.2.2)).bind fun r19 =>
  (bif !r19 then
  some true
 else
  (bif decide (0 < s2) then
  (gidx list_0 s2).bind fun x24 =>
  (gidx list_0 (w64 (s2 - 1))).bind fun x29 =>
  some (decide (x24.1 ≤ x29.1))
 else
  some false))) fun o7 =>
  (bif o7 then
  some (.inr (.inr false))
 else
  some (.inl (w64 (s2 + 1))))
 else
  some (.inr (.inl ())))) 0) (selim (fun t39 => some (decide ((list_0.length : Int) ≤ 16)))
   (fun t42 => some t42))

noncomputable def M.impl_validKey (key_0 : Int) : Option Bool :=
  (bif decide (1 ≤ key_0) then
  some (decide (key_0 ≤ 99))
 else
  some false)

noncomputable def M.impl_validTags (tags_0 : Int) : Option Bool :=
  (bif decide (0 ≤ tags_0) then
  some (decide (tags_0 ≤ 15))
 else
  some false)

noncomputable def M.impl_validItem (x_0 : Int × (List Int) × Int) : Option Bool :=
  (M.impl_validKey x_0.1).bind fun r4 =>
  (bif r4 then
  (M.impl_ValidVector x_0.2.1).bind fun r10 =>
  (bif r10 then
  (M.impl_validTags x_0.2.2).bind fun r16 =>
  some r16
 else
  some false)
 else
  some false)

noncomputable def M.impl_ValidStore (list_0 : List (Int × (List Int) × Int)) : Option Bool :=
  (bif decide (16 < (list_0.length : Int)) then
  some false
 else
  Option.bind (loopM (fun (s3 : (Int) × (Int)) => (bif decide (s3.2 < (list_0.length : Int)) then
  (gidx list_0 s3.2).bind fun x8 =>
  Option.bind ((M.impl_validItem (x8.1, x8.2.1, x8.2.2)).bind fun r30 =>
  (bif !r30 then
  some true
 else
  some (decide (x8.1 ≤ s3.1)))) fun o29 =>
  (bif o29 then
  some (.inr (.inr false))
 else
  some (.inl (x8.1, w64 (s3.2 + 1))))
 else
  some (.inr (.inl ())))) (0, 0)) (selim (fun t41 => some true)
   (fun t43 => some t43)))

noncomputable def M.spec_ValidStore (list_0 : List (Int × (List Int) × Int)) : Option Bool :=
  (M.spec_validStore list_0).bind fun r1 =>
  some r1

end Go.Vs

namespace Go.Vs

end Go.Vs

namespace Go.Vs

noncomputable def M.laws_toIntS (a_0 : List Int) : Option ((List Int)) :=
  (gmake (a_0.length : Int) (0 : Int)).bind fun xs1 =>
  Option.bind (loopM (fun (s10 : (List Int) × (Int)) => (bif decide (s10.2 < (a_0.length : Int)) then
  (gidx a_0 s10.2).bind fun x18 =>
  (gidx s10.1 s10.2).bind fun x23 =>
  some (.inl ((s10.1.set s10.2.toNat x18), w64 (s10.2 + 1)))
 else
  some (.inr s10.1))) (xs1, 0)) fun o9 =>
  some o9

noncomputable def M.laws_eqIntS (a_0 : List Int) (b_1 : List Int) : Option Bool :=
  (bif (a_0.length : Int) != (b_1.length : Int) then
  some false
 else
  Option.bind (loopM (fun (s3 : (Int)) => (bif decide (s3 < (a_0.length : Int)) then
  (gidx a_0 s3).bind fun x9 =>
  (gidx b_1 s3).bind fun x14 =>
  (bif x9 != x14 then
  some (.inr (.inr false))
 else
  some (.inl (w64 (s3 + 1))))
 else
  some (.inr (.inl ())))) 0) (selim (fun t21 => some true)
   (fun t23 => some t23)))

noncomputable def M.laws_szIntS (a_0 : List Int) (left_1 : Int) : Option Int :=
  (bif decide ((w64 (left_1 - (a_0.length : Int))) < 0) then
  some (-1)
 else
  some (w64 (left_1 - (a_0.length : Int))))

noncomputable def M.laws_szItem (a_0 : Int × (List Int) × Int) (left_1 : Int) : Option Int :=
  (M.laws_szIntS a_0.2.1 left_1).bind fun r7 =>
  (bif decide (r7 < 0) then
  some (-1)
 else
  some r7)

noncomputable def M.laws_szItemS (a_0 : List (Int × (List Int) × Int)) (left_1 : Int) : Option Int :=
  (bif decide ((w64 (left_1 - (a_0.length : Int))) < 0) then
  some (-1)
 else
  Option.bind (loopM (fun (s3 : (Int) × (Int)) => (bif decide (s3.2 < (a_0.length : Int)) then
  (gidx a_0 s3.2).bind fun x8 =>
  (M.laws_szItem (x8.1, x8.2.1, x8.2.2) s3.1).bind fun r19 =>
  (bif decide (r19 < 0) then
  some (.inr (.inr (-1)))
 else
  some (.inl (r19, w64 (s3.2 + 1))))
 else
  some (.inr (.inl s3.1)))) (w64 (left_1 - (a_0.length : Int)), 0)) (selim (fun t24 => some t24)
   (fun t26 => some t26)))

noncomputable def M.laws_toItem (a_0 : Int × (List Int) × Int) : Option ((Int × (List Int) × Int)) :=
  (M.laws_toIntS a_0.2.1).bind fun r26 =>
  some (a_0.1, r26, a_0.2.2)

noncomputable def M.laws_toItemS (a_0 : List (Int × (List Int) × Int)) : Option ((List (Int × (List Int) × Int))) :=
  (gmake (a_0.length : Int) ((0, [], 0) : Int × (List Int) × Int)).bind fun xs1 =>
  Option.bind (loopM (fun (s10 : (List (Int × (List Int) × Int)) × (Int)) => (bif decide (s10.2 < (a_0.length : Int)) then
  (gidx a_0 s10.2).bind fun x18 =>
  (M.laws_toItem (x18.1, x18.2.1, x18.2.2)).bind fun r29 =>
  (gidx s10.1 s10.2).bind fun x37 =>
  some (.inl ((s10.1.set s10.2.toNat (r29.1, r29.2.1, r29.2.2)), w64 (s10.2 + 1)))
 else
  some (.inr s10.1))) (xs1, 0)) fun o9 =>
  some o9

noncomputable def M.laws_eqItem (a_0 : Int × (List Int) × Int) (b_1 : Int × (List Int) × Int) : Option Bool :=
  (bif a_0.1 != b_1.1 then
  some false
 else
  (M.laws_eqIntS a_0.2.1 b_1.2.1).bind fun r15 =>
  (bif !r15 then
  some false
 else
  (bif a_0.2.2 != b_1.2.2 then
  some false
 else
  some true)))

noncomputable def M.laws_eqItemS (a_0 : List (Int × (List Int) × Int)) (b_1 : List (Int × (List Int) × Int)) : Option Bool :=
  (bif (a_0.length : Int) != (b_1.length : Int) then
  some false
 else
  Option.bind (loopM (fun (s3 : (Int)) => (bif decide (s3 < (a_0.length : Int)) then
  (gidx a_0 s3).bind fun x9 =>
  (gidx b_1 s3).bind fun x20 =>
  (M.laws_eqItem (x9.1, x9.2.1, x9.2.2) (x20.1, x20.2.1, x20.2.2)).bind fun r32 =>
  (bif !r32 then
  some (.inr (.inr false))
 else
  some (.inl (w64 (s3 + 1))))
 else
  some (.inr (.inl ())))) 0) (selim (fun t37 => some true)
   (fun t39 => some t39)))

noncomputable def M.laws_FnExactValidStore (aList_0 : List (Int × (List Int) × Int)) : Option Bool :=
  (M.laws_szItemS aList_0 1048576).bind fun r1 =>
  (bif decide (r1 < 0) then
  some true
 else
  (M.laws_toItemS aList_0).bind fun r6 =>
  (M.spec_ValidStore r6).bind fun r18 =>
  (M.laws_toItemS aList_0).bind fun r22 =>
  (M.impl_ValidStore r22).bind fun r33 =>
  (bif r33 != r18 then
  some false
 else
  (M.laws_toItemS aList_0).bind fun r44 =>
  (M.laws_eqItemS r22 r44).bind fun r63 =>
  (bif !r63 then
  some false
 else
  some true)))

end Go.Vs

namespace Go.Vs

end Go.Vs

namespace Go.Vs

end Go.Vs

namespace Go.Vs

end Go.Vs

namespace Go.Vs

end Go.Vs

namespace Go.Vs

end Go.Vs

namespace Go.Vs

end Go.Vs

namespace Go.Vs

end Go.Vs

namespace Go.Vs

end Go.Vs

namespace Go.Vs

end Go.Vs

namespace Go.Vs

end Go.Vs

namespace Go.Vs

end Go.Vs

namespace Go.Vs

end Go.Vs

namespace Go.Vs

end Go.Vs

namespace Go.Vs

end Go.Vs

namespace Go.Vs

end Go.Vs

namespace Go.Vs

end Go.Vs

namespace Go.Vs

end Go.Vs

namespace Go.Vs

end Go.Vs

namespace Go.Vs

end Go.Vs

namespace Go.Vs

end Go.Vs

namespace Go.Vs

end Go.Vs

namespace Go.Vs

end Go.Vs

namespace Go.Vs

end Go.Vs

namespace Go.Vs

end Go.Vs

namespace Go.Vs

end Go.Vs

namespace Go.Vs

end Go.Vs

namespace Go.Vs

end Go.Vs

namespace Go.Vs

end Go.Vs

namespace Go.Vs

end Go.Vs

namespace Go.Vs

end Go.Vs
