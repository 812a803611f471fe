/- What the functions compute. -/
import Derived.Test.YtjcaokajkkkniabExactEncodeVectorEng1
import Derived.Test.YtjcaokajkkkniabExactEncodeVectorSrt1
set_option linter.unusedVariables false
set_option linter.unusedSimpArgs false
namespace Go.Vs

noncomputable def M.impl_validCoords (coords_0 : List Int) : Option Bool :=
  Option.bind (loopM (fun (s2 : (Int)) => (bif decide (s2 < (coords_0.length : Int)) then
  (gidx coords_0 s2).bind fun x5 =>
  Option.bind ((bif decide (x5 < (-100)) then
  some true
 else
  some (decide (100 < x5)))) fun o11 =>
  (bif o11 then
  some (.inr (.inr false))
 else
  some (.inl (w64 (s2 + 1))))
 else
  some (.inr (.inl ())))) 0) (selim (fun t15 => some true)
   (fun t17 => some t17))

noncomputable def M.impl_ValidVector (v_0 : List Int) : Option Bool :=
  (bif (v_0.length : Int) == 4 then
  (M.impl_validCoords v_0).bind fun r2 =>
  some r2
 else
  some false)

noncomputable def M.spec_inRange (n_0 : Int) (low_1 : Int) (high_2 : Int) : Option Bool :=
  (bif decide (low_1 ≤ n_0) then
  some (decide (n_0 ≤ high_2))
 else
  some false)

noncomputable def M.spec_allIn (list_0 : List Int) (low_1 : Int) (high_2 : Int) : Option Bool :=
  Option.bind (loopM (fun (s2 : (Int)) => (bif decide (s2 < (list_0.length : Int)) then
  (gidx list_0 s2).bind fun x7 =>
  (M.spec_inRange x7 low_1 high_2).bind fun r12 =>
  (bif !r12 then
  some (.inr (.inr false))
 else
  some (.inl (w64 (s2 + 1))))
 else
  some (.inr (.inl ())))) 0) (selim (fun t17 => some true)
   (fun t19 => some t19))

noncomputable def M.spec_isVector (v_0 : List Int) : Option Bool :=
  (bif (v_0.length : Int) == 4 then
  (M.spec_allIn v_0 (-100) 100).bind fun r2 =>
  some r2
 else
  some false)

noncomputable def M.spec_size (n_0 : Int) : Option Int :=
  some (max n_0 (w64 (0 - n_0)))

noncomputable def M.spec_toInt (b_0 : Bool) : Option Int :=
  (bif b_0 then
  some 1
 else
  some 0)

noncomputable def M.spec_dist (kind_0 : Int) (a_1 : List Int) (b_2 : List Int) : Option Int :=
  Option.bind (loopM (fun (s2 : (Int) × (Int)) => (bif decide (s2.2 < (a_1.length : Int)) then
  Option.bind ((gidx a_1 s2.2).bind fun x9 =>
  (gidx b_2 s2.2).bind fun x14 =>
  (M.spec_size (w64 (x9 - x14))).bind fun r20 =>
  (bif kind_0 == 1 then
  some (w64 (s2.1 + r20))
 else
  (bif kind_0 == 2 then
  some (max s2.1 r20)
 else
  (bif kind_0 == 3 then
  some (w64 (s2.1 + (w64 (r20 * r20))))
 else
  (M.spec_toInt (decide (0 < r20))).bind fun r27 =>
  some (w64 (s2.1 + r27)))))) fun o8 =>
  some (.inl (o8, w64 (s2.2 + 1)))
 else
  some (.inr s2.1))) (0, 0)) fun o1 =>
  some o1

noncomputable def M.laws_equalInts (a_0 : List Int) (b_1 : List Int) : Option Bool :=
  (bif (a_0.length : Int) != (b_1.length : Int) then
  some false
 else
  Option.bind (loopM (fun (s3 : (Int)) => (bif decide (s3 < (a_0.length : Int)) then
  (gidx a_0 s3).bind fun x9 =>
  (gidx b_1 s3).bind fun x14 =>
  (bif x9 != x14 then
  some (.inr (.inr false))
 else
  some (.inl (w64 (s3 + 1))))
 else
  some (.inr (.inl ())))) 0) (selim (fun t21 => some true)
   (fun t23 => some t23)))

end Go.Vs

namespace Go.Vs

end Go.Vs

namespace Go.Vs

noncomputable def M.laws_toIntS (a_0 : List Int) : Option ((List Int)) :=
  (gmake (a_0.length : Int) (0 : Int)).bind fun xs1 =>
  Option.bind (loopM (fun (s10 : (List Int) × (Int)) => (bif decide (s10.2 < (a_0.length : Int)) then
  (gidx a_0 s10.2).bind fun x18 =>
  (gidx s10.1 s10.2).bind fun x23 =>
  some (.inl ((s10.1.set s10.2.toNat x18), w64 (s10.2 + 1)))
 else
  some (.inr s10.1))) (xs1, 0)) fun o9 =>
  some o9

noncomputable def M.laws_eqIntS (a_0 : List Int) (b_1 : List Int) : Option Bool :=
  (bif (a_0.length : Int) != (b_1.length : Int) then
  some false
 else
  Option.bind (loopM (fun (s3 : (Int)) => (bif decide (s3 < (a_0.length : Int)) then
  (gidx a_0 s3).bind fun x9 =>
  (gidx b_1 s3).bind fun x14 =>
  (bif x9 != x14 then
  some (.inr (.inr false))
 else
  some (.inl (w64 (s3 + 1))))
 else
  some (.inr (.inl ())))) 0) (selim (fun t21 => some true)
   (fun t23 => some t23)))

noncomputable def M.laws_szIntS (a_0 : List Int) (left_1 : Int) : Option Int :=
  (bif decide ((w64 (left_1 - (a_0.length : Int))) < 0) then
  some (-1)
 else
  some (w64 (left_1 - (a_0.length : Int))))

noncomputable def M.laws_szIntSS (a_0 : List (List Int)) (left_1 : Int) : Option Int :=
  (bif decide ((w64 (left_1 - (a_0.length : Int))) < 0) then
  some (-1)
 else
  Option.bind (loopM (fun (s3 : (Int) × (Int)) => (bif decide (s3.2 < (a_0.length : Int)) then
  (gidx a_0 s3.2).bind fun x8 =>
  (M.laws_szIntS x8 s3.1).bind fun r18 =>
  (bif decide (r18 < 0) then
  some (.inr (.inr (-1)))
 else
  some (.inl (r18, w64 (s3.2 + 1))))
 else
  some (.inr (.inl s3.1)))) (w64 (left_1 - (a_0.length : Int)), 0)) (selim (fun t23 => some t23)
   (fun t25 => some t25)))

noncomputable def M.laws_toIntSS (a_0 : List (List Int)) : Option ((List (List Int))) :=
  (gmake (a_0.length : Int) ([] : List Int)).bind fun xs1 =>
  Option.bind (loopM (fun (s10 : (List (List Int)) × (Int)) => (bif decide (s10.2 < (a_0.length : Int)) then
  (gidx a_0 s10.2).bind fun x18 =>
  (M.laws_toIntS x18).bind fun r28 =>
  (gidx s10.1 s10.2).bind fun x37 =>
  some (.inl ((s10.1.set s10.2.toNat r28), w64 (s10.2 + 1)))
 else
  some (.inr s10.1))) (xs1, 0)) fun o9 =>
  some o9

noncomputable def M.laws_eqIntSS (a_0 : List (List Int)) (b_1 : List (List Int)) : Option Bool :=
  (bif (a_0.length : Int) != (b_1.length : Int) then
  some false
 else
  Option.bind (loopM (fun (s3 : (Int)) => (bif decide (s3 < (a_0.length : Int)) then
  (gidx a_0 s3).bind fun x9 =>
  (gidx b_1 s3).bind fun x19 =>
  (M.laws_eqIntS x9 x19).bind fun r30 =>
  (bif !r30 then
  some (.inr (.inr false))
 else
  some (.inl (w64 (s3 + 1))))
 else
  some (.inr (.inl ())))) 0) (selim (fun t35 => some true)
   (fun t37 => some t37)))

end Go.Vs

namespace Go.Vs

end Go.Vs

namespace Go.Vs

end Go.Vs

namespace Go.Vs

end Go.Vs

namespace Go.Vs

end Go.Vs

namespace Go.Vs

end Go.Vs

namespace Go.Vs

end Go.Vs

namespace Go.Vs

end Go.Vs

namespace Go.Vs

end Go.Vs

namespace Go.Vs

end Go.Vs

namespace Go.Vs

end Go.Vs

namespace Go.Vs

end Go.Vs

namespace Go.Vs

end Go.Vs

namespace Go.Vs

end Go.Vs

namespace Go.Vs

end Go.Vs

namespace Go.Vs

end Go.Vs

namespace Go.Vs

noncomputable def M.laws_szBook (a_0 : (List (List Int)) × (List (List Int))) (left_1 : Int) : Option Int :=
  (M.laws_szIntSS a_0.1 left_1).bind fun r4 =>
  (bif decide (r4 < 0) then
  some (-1)
 else
  (M.laws_szIntSS a_0.2 r4).bind fun r10 =>
  (bif decide (r10 < 0) then
  some (-1)
 else
  some r10))

noncomputable def M.spec_validHalves (list_0 : List (List Int)) : Option Bool :=
  Option.bind (loopM (fun (s2 : (Int)) => (bif decide (s2 < (list_0.length : Int)) then
  Option.bind ((gidx list_0 s2).bind fun x6 =>
  (bif (x6.length : Int) != 2 then
  some true
 else
  (gidx list_0 s2).bind fun x17 =>
  (M.spec_allIn x17 (-100) 100).bind fun r27 =>
  some (!r27))) fun o5 =>
  (bif o5 then
  some (.inr (.inr false))
 else
  some (.inl (w64 (s2 + 1))))
 else
  some (.inr (.inl ())))) 0) (selim (fun t33 => some true)
   (fun t35 => some t35))

noncomputable def M.spec_validBook (b_0 : (List (List Int)) × (List (List Int))) : Option Bool :=
  (bif (b_0.1.length : Int) == 4 then
  (bif (b_0.2.length : Int) == 4 then
  (M.spec_validHalves b_0.1).bind fun r8 =>
  (bif r8 then
  (M.spec_validHalves b_0.2).bind fun r14 =>
  some r14
 else
  some false)
 else
  some false)
 else
  some false)

noncomputable def M.spec_halfDist (a_0 : List Int) (b_1 : List Int) : Option Int :=
  (M.spec_dist 3 a_0 b_1).bind fun r1 =>
  some r1

noncomputable def M.spec_closest (list_0 : List (List Int)) (half_1 : List Int) : Option Int :=
  Option.bind (loopM (fun (s2 : (Int) × (Int)) => (bif decide (s2.2 < (list_0.length : Int)) then
  Option.bind ((gidx list_0 s2.2).bind fun x6 =>
  (M.spec_halfDist x6 half_1).bind fun r16 =>
  (gidx list_0 s2.1).bind fun x19 =>
  (M.spec_halfDist x19 half_1).bind fun r30 =>
  (bif decide (r16 < r30) then
  some s2.2
 else
  some s2.1)) fun o5 =>
  some (.inl (o5, w64 (s2.2 + 1)))
 else
  some (.inr s2.1))) (0, 1)) fun o1 =>
  some o1

noncomputable def M.spec_encode (b_0 : (List (List Int)) × (List (List Int))) (at_1 : List Int) : Option Int :=
  (gslice at_1 0 2).bind fun xs4 =>
  (M.spec_closest b_0.1 xs4).bind fun r10 =>
  (gslice at_1 2 (at_1.length : Int)).bind fun xs14 =>
  (M.spec_closest b_0.2 xs14).bind fun r20 =>
  some (w64 ((w64 (r10 * 4)) + r20))

noncomputable def M.laws_eqBook (a_0 : (List (List Int)) × (List (List Int))) (b_1 : (List (List Int)) × (List (List Int))) : Option Bool :=
  (M.laws_eqIntSS a_0.1 b_1.1).bind fun r7 =>
  (bif !r7 then
  some false
 else
  (M.laws_eqIntSS a_0.2 b_1.2).bind fun r14 =>
  (bif !r14 then
  some false
 else
  some true))

end Go.Vs

namespace Go.Vs

noncomputable def M.impl_validSide (side_0 : List (List Int)) : Option Bool :=
  (bif (side_0.length : Int) != 4 then
  some false
 else
  Option.bind (loopM (fun (s3 : (Int)) => (bif decide (s3 < (side_0.length : Int)) then
  (gidx side_0 s3).bind fun x6 =>
  Option.bind ((bif (x6.length : Int) != 2 then
  some true
 else
  (M.impl_validCoords x6).bind fun r18 =>
  some (!r18))) fun o16 =>
  (bif o16 then
  some (.inr (.inr false))
 else
  some (.inl (w64 (s3 + 1))))
 else
  some (.inr (.inl ())))) 0) (selim (fun t24 => some true)
   (fun t26 => some t26)))

noncomputable def M.impl_ValidBook (b_0 : (List (List Int)) × (List (List Int))) : Option Bool :=
  (M.impl_validSide b_0.1).bind fun r4 =>
  (bif r4 then
  (M.impl_validSide b_0.2).bind fun r10 =>
  some r10
 else
  some false)

noncomputable def M.impl_tableOf (side_0 : List (List Int)) (half_1 : List Int) : Option ((List Int)) :=
  Option.bind (loopM (fun (s6 : (List Int) × (Int)) => (bif decide (s6.2 < (side_0.length : Int)) then
  (gidx side_0 s6.2).bind fun x10 =>
  Option.bind (loopM (fun (s21 : (List Int) × (Int)) => (bif decide (s21.2 < (half_1.length : Int)) then
  (gidx half_1 s21.2).bind fun x25 =>
  (gidx s21.1 s6.2).bind fun x31 =>
  (gidx x10 s21.2).bind fun x35 =>
  (gidx x10 s21.2).bind fun x41 =>
  (gidx s21.1 s6.2).bind fun x49 =>
  some (.inl ((s21.1.set s6.2.toNat (w64 (x31 + (w64 ((w64 (x25 - x35)) * (w64 (x25 - x41))))))), w64 (s21.2 + 1)))
 else
  some (.inr s21.1))) (s6.1, 0)) fun o20 =>
  some (.inl (o20, w64 (s6.2 + 1)))
 else
  some (.inr s6.1))) ((List.replicate 4 0), 0)) fun o5 =>
  some o5

noncomputable def M.impl_tablesOf (b_0 : (List (List Int)) × (List (List Int))) (at_1 : List Int) : Option ((List Int) × (List Int)) :=
  (gslice at_1 0 2).bind fun xs8 =>
  (M.impl_tableOf b_0.1 xs8).bind fun r14 =>
  (gslice at_1 2 (at_1.length : Int)).bind fun xs19 =>
  (M.impl_tableOf b_0.2 xs19).bind fun r26 =>
  some (r14, r26)

noncomputable def M.slices_Index_int_int (s_0 : List Int) (v_1 : Int) : Option Int :=
  Option.bind (loopM (fun (s2 : (Int)) => (bif decide (s2 < (s_0.length : Int)) then
  (gidx s_0 s2).bind fun x5 =>
  (bif v_1 == x5 then
  some (.inr (.inr s2))
 else
  some (.inl (w64 (s2 + 1))))
 else
  some (.inr (.inl ())))) 0) (selim (fun t12 => some (-1))
   (fun t14 => some t14))

noncomputable def M.slices_Min_int_int (x_0 : List Int) : Option Int :=
  (bif decide ((x_0.length : Int) < 1) then
  none
 else
  (gidx x_0 0).bind fun x2 =>
  Option.bind (loopM (fun (s9 : (Int) × (Int)) => (bif decide (s9.2 < (x_0.length : Int)) then
  (gidx x_0 s9.2).bind fun x12 =>
  some (.inl (min s9.1 x12, w64 (s9.2 + 1)))
 else
  some (.inr s9.1))) (x2, 1)) fun o8 =>
  some o8)

noncomputable def M.impl_sideTable_nearest (t_0 : List Int) : Option Int :=
  (M.slices_Min_int_int t_0).bind fun r5 =>
  (M.slices_Index_int_int t_0 r5).bind fun r9 =>
  some r9

noncomputable def M.impl_EncodeVector (b_0 : (List (List Int)) × (List (List Int))) (at_1 : List Int) : Option Int :=
  Option.bind ((M.impl_ValidBook (b_0.1, b_0.2)).bind fun r5 =>
  (bif !r5 then
  some true
 else
  (M.impl_ValidVector at_1).bind fun r10 =>
  some (!r10))) fun o3 =>
  (bif o3 then
  some (-1)
 else
  (M.impl_tablesOf (b_0.1, b_0.2) at_1).bind fun r17 =>
  (M.impl_sideTable_nearest r17.1).bind fun r30 =>
  (M.impl_sideTable_nearest r17.2).bind fun r34 =>
  some (w64 ((w64 (4 * r30)) + r34)))

noncomputable def M.spec_EncodeVector (b_0 : (List (List Int)) × (List (List Int))) (at_1 : List Int) : Option Int :=
  Option.bind ((M.spec_validBook (b_0.1, b_0.2)).bind fun r5 =>
  (bif !r5 then
  some true
 else
  (M.spec_isVector at_1).bind fun r10 =>
  some (!r10))) fun o3 =>
  (bif o3 then
  some (-1)
 else
  (M.spec_encode (b_0.1, b_0.2) at_1).bind fun r17 =>
  some r17)

noncomputable def M.laws_toBook (a_0 : (List (List Int)) × (List (List Int))) : Option (((List (List Int)) × (List (List Int)))) :=
  (M.laws_toIntSS a_0.1).bind fun r8 =>
  (M.laws_toIntSS a_0.2).bind fun r17 =>
  some (r8, r17)

noncomputable def M.laws_FnExactEncodeVector (aB_0 : (List (List Int)) × (List (List Int))) (aAt_1 : List Int) : Option Bool :=
  (bif decide (1048576 < (aAt_1.length : Int)) then
  some true
 else
  (M.laws_szBook (aB_0.1, aB_0.2) 1048576).bind fun r5 =>
  (bif decide (r5 < 0) then
  some true
 else
  (M.laws_toBook (aB_0.1, aB_0.2)).bind fun r11 =>
  (M.laws_toIntS aAt_1).bind fun r21 =>
  (M.spec_EncodeVector (r11.1, r11.2) r21).bind fun r34 =>
  (M.laws_toBook (aB_0.1, aB_0.2)).bind fun r39 =>
  (M.laws_toIntS aAt_1).bind fun r52 =>
  (M.impl_EncodeVector (r39.1, r39.2) r52).bind fun r60 =>
  (bif r60 != r34 then
  some false
 else
  (M.laws_toBook (aB_0.1, aB_0.2)).bind fun r67 =>
  (M.laws_eqBook (r39.1, r39.2) (r67.1, r67.2)).bind fun r85 =>
  (bif !r85 then
  some false
 else
  (M.laws_toIntS aAt_1).bind fun r90 =>
  (M.laws_eqIntS r52 r90).bind fun r101 =>
  (bif !r101 then
  some false
 else
  some true)))))

end Go.Vs

namespace Go.Vs

end Go.Vs

namespace Go.Vs

end Go.Vs
