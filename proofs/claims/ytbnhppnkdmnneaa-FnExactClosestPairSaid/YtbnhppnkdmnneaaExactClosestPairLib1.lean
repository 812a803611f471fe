/- What the functions compute. -/
import Derived.Test.YtbnhppnkdmnneaaExactClosestPairEng1
import Derived.Test.YtbnhppnkdmnneaaExactClosestPairEng2
set_option linter.unusedVariables false
set_option linter.unusedSimpArgs false
namespace Go.Vs

noncomputable def M.impl_validCoords (coords_0 : List Int) : Option Bool :=
  Option.bind (loopM (fun (s2 : (Int)) => (bif decide (s2 < (coords_0.length : Int)) then
  (gidx coords_0 s2).bind fun x5 =>
  Option.bind ((bif decide (x5 < (-100)) then
  some true
 else
  some (decide (100 < x5)))) fun o11 =>
  (bif o11 then
  some (.inr (.inr false))
 else
  some (.inl (w64 (s2 + 1))))
 else
  some (.inr (.inl ())))) 0) (selim (fun t15 => some true)
   (fun t17 => some t17))

noncomputable def M.impl_ValidVector (v_0 : List Int) : Option Bool :=
  (bif (v_0.length : Int) == 4 then
  (M.impl_validCoords v_0).bind fun r2 =>
  some r2
 else
  some false)

noncomputable def M.spec_inRange (n_0 : Int) (low_1 : Int) (high_2 : Int) : Option Bool :=
  (bif decide (low_1 ≤ n_0) then
  some (decide (n_0 ≤ high_2))
 else
  some false)

noncomputable def M.spec_allIn (list_0 : List Int) (low_1 : Int) (high_2 : Int) : Option Bool :=
  Option.bind (loopM (fun (s2 : (Int)) => (bif decide (s2 < (list_0.length : Int)) then
  (gidx list_0 s2).bind fun x7 =>
  (M.spec_inRange x7 low_1 high_2).bind fun r12 =>
  (bif !r12 then
  some (.inr (.inr false))
 else
  some (.inl (w64 (s2 + 1))))
 else
  some (.inr (.inl ())))) 0) (selim (fun t17 => some true)
   (fun t19 => some t19))

noncomputable def M.spec_isVector (v_0 : List Int) : Option Bool :=
  (bif (v_0.length : Int) == 4 then
  (M.spec_allIn v_0 (-100) 100).bind fun r2 =>
  some r2
 else
  some false)

noncomputable def M.impl_distanceOf (kind_0 : Int) (gaps_1 : List Int) : Option Int :=
  Option.bind (loopM (fun (s8 : (Int) × (Int)) => (bif decide (s8.2 < 4) then
  Option.bind ((gidx gaps_1 s8.2).bind fun x13 =>
  (bif kind_0 == 1 then
  some (.inl (w64 (s8.1 + x13)))
 else
  (bif kind_0 == 2 then
  some (.inl (max s8.1 x13))
 else
  (bif kind_0 == 3 then
  some (.inl (w64 (s8.1 + (w64 (x13 * x13)))))
 else
  (bif kind_0 == 4 then
  some (.inl (w64 (s8.1 + (min x13 1))))
 else
  some (.inr (-1))))))) (selim (fun t19 => some (.inl (t19, w64 (s8.2 + 1))))
   (fun t21 => some (.inr (.inr t21))))
 else
  some (.inr (.inl s8.1)))) (0, 0)) (selim (fun t23 => some t23)
   (fun t25 => some t25))

noncomputable def M.impl_gapsOf (a_0 : List Int) (b_1 : List Int) : Option ((List Int)) :=
  Option.bind (loopM (fun (s32 : (List Int) × (Int)) => (bif decide (s32.2 < 4) then
  (gidx a_0 s32.2).bind fun x47 =>
  (gidx b_1 s32.2).bind fun x50 =>
  (gidx b_1 s32.2).bind fun x53 =>
  (gidx a_0 s32.2).bind fun x56 =>
  (gidx s32.1 s32.2).bind fun x60 =>
  some (.inl ((s32.1.set s32.2.toNat (max (w64 (x47 - x50)) (w64 (x53 - x56)))), w64 (s32.2 + 1)))
 else
  some (.inr s32.1))) ((List.replicate 4 0), 0)) fun o31 =>
  some o31

noncomputable def M.impl_Distance (kind_0 : Int) (a_1 : List Int) (b_2 : List Int) : Option Int :=
  Option.bind ((M.impl_ValidVector a_1).bind fun r2 =>
  (bif !r2 then
  some true
 else
  (M.impl_ValidVector b_2).bind fun r7 =>
  some (!r7))) fun o1 =>
  (bif o1 then
  some (-1)
 else
  (garr 4 a_1).bind fun xs15 =>
  (garr 4 b_2).bind fun xs22 =>
  (M.impl_gapsOf (List.take 4 a_1) (List.take 4 b_2)).bind fun r29 =>
  (M.impl_distanceOf kind_0 r29).bind fun r33 =>
  some r33)

noncomputable def M.spec_validKind (kind_0 : Int) : Option Bool :=
  (M.spec_inRange kind_0 1 4).bind fun r1 =>
  some r1

noncomputable def M.spec_size (n_0 : Int) : Option Int :=
  some (max n_0 (w64 (0 - n_0)))

noncomputable def M.spec_toInt (b_0 : Bool) : Option Int :=
  (bif b_0 then
  some 1
 else
  some 0)

noncomputable def M.spec_dist (kind_0 : Int) (a_1 : List Int) (b_2 : List Int) : Option Int :=
  Option.bind (loopM (fun (s2 : (Int) × (Int)) => (bif decide (s2.2 < (a_1.length : Int)) then
  Option.bind ((gidx a_1 s2.2).bind fun x9 =>
  (gidx b_2 s2.2).bind fun x14 =>
  (M.spec_size (w64 (x9 - x14))).bind fun r20 =>
  (bif kind_0 == 1 then
  some (w64 (s2.1 + r20))
 else
  (bif kind_0 == 2 then
  some (max s2.1 r20)
 else
  (bif kind_0 == 3 then
  some (w64 (s2.1 + (w64 (r20 * r20))))
 else
  (M.spec_toInt (decide (0 < r20))).bind fun r27 =>
  some (w64 (s2.1 + r27)))))) fun o8 =>
  some (.inl (o8, w64 (s2.2 + 1)))
 else
  some (.inr s2.1))) (0, 0)) fun o1 =>
  some o1

noncomputable def M.laws_equalInts (a_0 : List Int) (b_1 : List Int) : Option Bool :=
  (bif (a_0.length : Int) != (b_1.length : Int) then
  some false
 else
  Option.bind (loopM (fun (s3 : (Int)) => (bif decide (s3 < (a_0.length : Int)) then
  (gidx a_0 s3).bind fun x9 =>
  (gidx b_1 s3).bind fun x14 =>
  (bif x9 != x14 then
  some (.inr (.inr false))
 else
  some (.inl (w64 (s3 + 1))))
 else
  some (.inr (.inl ())))) 0) (selim (fun t21 => some true)
   (fun t23 => some t23)))

noncomputable def M.spec_validItem (x_0 : Int × (List Int) × Int) : Option Bool :=
  (M.spec_inRange x_0.1 1 99).bind fun r7 =>
  (bif r7 then
  (M.spec_isVector x_0.2.1).bind fun r13 =>
  (bif r13 then
  (M.spec_inRange x_0.2.2 0 15).bind fun r19 =>
  some r19
 else
  some false)
 else
  some false)

noncomputable def M.spec_validStore (list_0 : List (Int × (List Int) × Int)) : Option Bool :=
  Option.bind (loopM (fun (s2 : (Int)) => (bif decide (s2 < (list_0.length : Int)) then
  Option.bind ((gidx list_0 s2).bind fun x8 =>
  (M.spec_validItem (x8.1, x8.2.1, x8.2.2)).bind fun r19 =>
  (bif !r19 then
  some true
 else
  (bif decide (0 < s2) then
  (gidx list_0 s2).bind fun x24 =>
  (gidx list_0 (w64 (s2 - 1))).bind fun x29 =>
  some (decide (x24.1 ≤ x29.1))
 else
  some false))) fun o7 =>
  (bif o7 then
  some (.inr (.inr false))
 else
  some (.inl (w64 (s2 + 1))))
 else
  some (.inr (.inl ())))) 0) (selim (fun t39 => some (decide ((list_0.length : Int) ≤ 16)))
   (fun t42 => some t42))

noncomputable def M.impl_validKey (key_0 : Int) : Option Bool :=
  (bif decide (1 ≤ key_0) then
  some (decide (key_0 ≤ 99))
 else
  some false)

noncomputable def M.impl_validTags (tags_0 : Int) : Option Bool :=
  (bif decide (0 ≤ tags_0) then
  some (decide (tags_0 ≤ 15))
 else
  some false)

noncomputable def M.impl_validItem (x_0 : Int × (List Int) × Int) : Option Bool :=
  (M.impl_validKey x_0.1).bind fun r4 =>
  (bif r4 then
  (M.impl_ValidVector x_0.2.1).bind fun r10 =>
  (bif r10 then
  (M.impl_validTags x_0.2.2).bind fun r16 =>
  some r16
 else
  some false)
 else
  some false)

noncomputable def M.impl_ValidStore (list_0 : List (Int × (List Int) × Int)) : Option Bool :=
  (bif decide (16 < (list_0.length : Int)) then
  some false
 else
  Option.bind (loopM (fun (s3 : (Int) × (Int)) => (bif decide (s3.2 < (list_0.length : Int)) then
  (gidx list_0 s3.2).bind fun x8 =>
  Option.bind ((M.impl_validItem (x8.1, x8.2.1, x8.2.2)).bind fun r30 =>
  (bif !r30 then
  some true
 else
  some (decide (x8.1 ≤ s3.1)))) fun o29 =>
  (bif o29 then
  some (.inr (.inr false))
 else
  some (.inl (x8.1, w64 (s3.2 + 1))))
 else
  some (.inr (.inl ())))) (0, 0)) (selim (fun t41 => some true)
   (fun t43 => some t43)))

end Go.Vs

namespace Go.Vs

end Go.Vs

namespace Go.Vs

noncomputable def M.laws_toIntS (a_0 : List Int) : Option ((List Int)) :=
  (gmake (a_0.length : Int) (0 : Int)).bind fun xs1 =>
  Option.bind (loopM (fun (s10 : (List Int) × (Int)) => (bif decide (s10.2 < (a_0.length : Int)) then
  (gidx a_0 s10.2).bind fun x18 =>
  (gidx s10.1 s10.2).bind fun x23 =>
  some (.inl ((s10.1.set s10.2.toNat x18), w64 (s10.2 + 1)))
 else
  some (.inr s10.1))) (xs1, 0)) fun o9 =>
  some o9

noncomputable def M.laws_eqIntS (a_0 : List Int) (b_1 : List Int) : Option Bool :=
  (bif (a_0.length : Int) != (b_1.length : Int) then
  some false
 else
  Option.bind (loopM (fun (s3 : (Int)) => (bif decide (s3 < (a_0.length : Int)) then
  (gidx a_0 s3).bind fun x9 =>
  (gidx b_1 s3).bind fun x14 =>
  (bif x9 != x14 then
  some (.inr (.inr false))
 else
  some (.inl (w64 (s3 + 1))))
 else
  some (.inr (.inl ())))) 0) (selim (fun t21 => some true)
   (fun t23 => some t23)))

noncomputable def M.laws_szIntS (a_0 : List Int) (left_1 : Int) : Option Int :=
  (bif decide ((w64 (left_1 - (a_0.length : Int))) < 0) then
  some (-1)
 else
  some (w64 (left_1 - (a_0.length : Int))))

noncomputable def M.laws_szItem (a_0 : Int × (List Int) × Int) (left_1 : Int) : Option Int :=
  (M.laws_szIntS a_0.2.1 left_1).bind fun r7 =>
  (bif decide (r7 < 0) then
  some (-1)
 else
  some r7)

noncomputable def M.laws_szItemS (a_0 : List (Int × (List Int) × Int)) (left_1 : Int) : Option Int :=
  (bif decide ((w64 (left_1 - (a_0.length : Int))) < 0) then
  some (-1)
 else
  Option.bind (loopM (fun (s3 : (Int) × (Int)) => (bif decide (s3.2 < (a_0.length : Int)) then
  (gidx a_0 s3.2).bind fun x8 =>
  (M.laws_szItem (x8.1, x8.2.1, x8.2.2) s3.1).bind fun r19 =>
  (bif decide (r19 < 0) then
  some (.inr (.inr (-1)))
 else
  some (.inl (r19, w64 (s3.2 + 1))))
 else
  some (.inr (.inl s3.1)))) (w64 (left_1 - (a_0.length : Int)), 0)) (selim (fun t24 => some t24)
   (fun t26 => some t26)))

noncomputable def M.laws_toItem (a_0 : Int × (List Int) × Int) : Option ((Int × (List Int) × Int)) :=
  (M.laws_toIntS a_0.2.1).bind fun r26 =>
  some (a_0.1, r26, a_0.2.2)

noncomputable def M.laws_toItemS (a_0 : List (Int × (List Int) × Int)) : Option ((List (Int × (List Int) × Int))) :=
  (gmake (a_0.length : Int) ((0, [], 0) : Int × (List Int) × Int)).bind fun xs1 =>
  Option.bind (loopM (fun (s10 : (List (Int × (List Int) × Int)) × (Int)) => (bif decide (s10.2 < (a_0.length : Int)) then
  (gidx a_0 s10.2).bind fun x18 =>
  (M.laws_toItem (x18.1, x18.2.1, x18.2.2)).bind fun r29 =>
  (gidx s10.1 s10.2).bind fun x37 =>
  some (.inl ((s10.1.set s10.2.toNat (r29.1, r29.2.1, r29.2.2)), w64 (s10.2 + 1)))
 else
  some (.inr s10.1))) (xs1, 0)) fun o9 =>
  some o9

noncomputable def M.laws_eqItem (a_0 : Int × (List Int) × Int) (b_1 : Int × (List Int) × Int) : Option Bool :=
  (bif a_0.1 != b_1.1 then
  some false
 else
  (M.laws_eqIntS a_0.2.1 b_1.2.1).bind fun r15 =>
  (bif !r15 then
  some false
 else
  (bif a_0.2.2 != b_1.2.2 then
  some false
 else
  some true)))

noncomputable def M.laws_eqItemS (a_0 : List (Int × (List Int) × Int)) (b_1 : List (Int × (List Int) × Int)) : Option Bool :=
  (bif (a_0.length : Int) != (b_1.length : Int) then
  some false
 else
  Option.bind (loopM (fun (s3 : (Int)) => (bif decide (s3 < (a_0.length : Int)) then
  (gidx a_0 s3).bind fun x9 =>
  (gidx b_1 s3).bind fun x20 =>
  (M.laws_eqItem (x9.1, x9.2.1, x9.2.2) (x20.1, x20.2.1, x20.2.2)).bind fun r32 =>
  (bif !r32 then
  some (.inr (.inr false))
 else
  some (.inl (w64 (s3 + 1))))
 else
  some (.inr (.inl ())))) 0) (selim (fun t37 => some true)
   (fun t39 => some t39)))

end Go.Vs

namespace Go.Vs

end Go.Vs

namespace Go.Vs

end Go.Vs

namespace Go.Vs

noncomputable def M.impl_validKind (kind_0 : Int) : Option Bool :=
  (bif decide (1 ≤ kind_0) then
  some (decide (kind_0 ≤ 4))
 else
  some false)

noncomputable def M.impl_ClosestPair (list_0 : List (Int × (List Int) × Int)) (kind_1 : Int) : Option (Int × Int × Bool) :=
  Option.bind ((M.impl_ValidStore list_0).bind fun r2 =>
  (bif !r2 then
  some true
 else
  (M.impl_validKind kind_1).bind fun r7 =>
  (bif !r7 then
  some true
 else
  some (decide ((list_0.length : Int) < 2))))) fun o1 =>
  (bif o1 then
  some (0, 0, false)
 else
  Option.bind (loopM (fun (s15 : (Int) × (Int) × (Int) × (Int)) => (bif decide (s15.2.2.2 < (list_0.length : Int)) then
  (gidx list_0 s15.2.2.2).bind fun x18 =>
  (gslice list_0 (w64 (s15.2.2.2 + 1)) (list_0.length : Int)).bind fun xs31 =>
  Option.bind (loopM (fun (s38 : (Int) × (Int) × (Int) × (Int)) => (bif decide (s38.2.2.2 < (xs31.length : Int)) then
  Option.bind ((gidx xs31 s38.2.2.2).bind fun x42 =>
  (M.impl_Distance kind_1 x18.2.1 x42.2.1).bind fun r57 =>
  (bif decide (r57 < s38.2.2.1) then
  some (x18.1, x42.1, r57)
 else
  some (s38.1, s38.2.1, s38.2.2.1))) fun o41 =>
  some (.inl (o41.1, o41.2.1, o41.2.2, w64 (s38.2.2.2 + 1)))
 else
  some (.inr (s38.1, s38.2.1, s38.2.2.1)))) (s15.1, s15.2.1, s15.2.2.1, 0)) fun o37 =>
  some (.inl (o37.1, o37.2.1, o37.2.2, w64 (s15.2.2.2 + 1)))
 else
  some (.inr (s15.1, s15.2.1)))) (0, 0, 1000000, 0)) fun o14 =>
  some (o14.1, o14.2, true))

noncomputable def M.spec_ClosestPair (list_0 : List (Int × (List Int) × Int)) (kind_1 : Int) : Option (Int × Int × Bool) :=
  Option.bind ((M.spec_validStore list_0).bind fun r2 =>
  (bif !r2 then
  some true
 else
  (M.spec_validKind kind_1).bind fun r7 =>
  (bif !r7 then
  some true
 else
  some (decide ((list_0.length : Int) < 2))))) fun o1 =>
  (bif o1 then
  some (0, 0, false)
 else
  Option.bind (loopM (fun (s15 : (Int) × (Int) × (Int)) => (bif decide (s15.2.2 < (list_0.length : Int)) then
  Option.bind (loopM (fun (s19 : (Int) × (Int) × (Int)) => (bif decide (s19.2.2 < (list_0.length : Int)) then
  Option.bind ((gidx list_0 s15.2.2).bind fun x23 =>
  (gidx list_0 s19.2.2).bind fun x33 =>
  (M.spec_dist kind_1 x23.2.1 x33.2.1).bind fun r43 =>
  (gidx list_0 s19.1).bind fun x46 =>
  (gidx list_0 s19.2.1).bind fun x56 =>
  (M.spec_dist kind_1 x46.2.1 x56.2.1).bind fun r67 =>
  (bif decide (r43 < r67) then
  some (s15.2.2, s19.2.2)
 else
  some (s19.1, s19.2.1))) fun o22 =>
  some (.inl (o22.1, o22.2, w64 (s19.2.2 + 1)))
 else
  some (.inr (s19.1, s19.2.1)))) (s15.1, s15.2.1, w64 (s15.2.2 + 1))) fun o18 =>
  some (.inl (o18.1, o18.2, w64 (s15.2.2 + 1)))
 else
  some (.inr (s15.1, s15.2.1)))) (0, 1, 0)) fun o14 =>
  (gidx list_0 o14.1).bind fun x75 =>
  (gidx list_0 o14.2).bind fun x81 =>
  some (x75.1, x81.1, true))

end Go.Vs

namespace Go.Vs

end Go.Vs

namespace Go.Vs

noncomputable def M.laws_FnExactClosestPair (aList_0 : List (Int × (List Int) × Int)) (aKind_1 : Int) : Option Bool :=
  (M.laws_szItemS aList_0 1048576).bind fun r1 =>
  (bif decide (r1 < 0) then
  some true
 else
  (M.laws_toItemS aList_0).bind fun r6 =>
  (M.spec_ClosestPair r6 aKind_1).bind fun r15 =>
  (M.laws_toItemS aList_0).bind fun r19 =>
  (M.impl_ClosestPair r19 aKind_1).bind fun r26 =>
  Option.bind ((bif r26.1 != r15.1 then
  some true
 else
  (bif r26.2.1 != r15.2.1 then
  some true
 else
  some (r26.2.2 != r15.2.2)))) fun o30 =>
  (bif o30 then
  some false
 else
  (M.laws_toItemS aList_0).bind fun r35 =>
  (M.laws_eqItemS r19 r35).bind fun r46 =>
  (bif !r46 then
  some false
 else
  some true)))

end Go.Vs

namespace Go.Vs

end Go.Vs

namespace Go.Vs

end Go.Vs

namespace Go.Vs

end Go.Vs

namespace Go.Vs

end Go.Vs

namespace Go.Vs

end Go.Vs

namespace Go.Vs

end Go.Vs

namespace Go.Vs

end Go.Vs

namespace Go.Vs

end Go.Vs

namespace Go.Vs

end Go.Vs

namespace Go.Vs

end Go.Vs

namespace Go.Vs

end Go.Vs

namespace Go.Vs

end Go.Vs

namespace Go.Vs

end Go.Vs

namespace Go.Vs

end Go.Vs

namespace Go.Vs

end Go.Vs

namespace Go.Vs

end Go.Vs

namespace Go.Vs

end Go.Vs

namespace Go.Vs

end Go.Vs

namespace Go.Vs

end Go.Vs

namespace Go.Vs

end Go.Vs

namespace Go.Vs

end Go.Vs

namespace Go.Vs

end Go.Vs

namespace Go.Vs

end Go.Vs

namespace Go.Vs

end Go.Vs
