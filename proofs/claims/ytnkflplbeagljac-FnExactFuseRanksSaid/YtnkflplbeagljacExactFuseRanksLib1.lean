/- What the functions compute. -/
import Derived.Test.YtnkflplbeagljacExactFuseRanksEng1
import Derived.Test.YtnkflplbeagljacExactFuseRanksEng2
set_option linter.unusedVariables false
set_option linter.unusedSimpArgs false
namespace Go.Vs

noncomputable def M.spec_inRange (n_0 : Int) (low_1 : Int) (high_2 : Int) : Option Bool :=
  (bif decide (low_1 ≤ n_0) then
  some (decide (n_0 ≤ high_2))
 else
  some false)

noncomputable def M.laws_equalInts (a_0 : List Int) (b_1 : List Int) : Option Bool :=
  (bif (a_0.length : Int) != (b_1.length : Int) then
  some false
 else
  Option.bind (loopM (fun (s3 : (Int)) => (bif decide (s3 < (a_0.length : Int)) then
  (gidx a_0 s3).bind fun x9 =>
  (gidx b_1 s3).bind fun x14 =>
  (bif x9 != x14 then
  some (.inr (.inr false))
 else
  some (.inl (w64 (s3 + 1))))
 else
  some (.inr (.inl ())))) 0) (selim (fun t21 => some true)
   (fun t23 => some t23)))

noncomputable def M.impl_validKey (key_0 : Int) : Option Bool :=
  (bif decide (1 ≤ key_0) then
  some (decide (key_0 ≤ 99))
 else
  some false)

noncomputable def M.cmp_isNaN_int (x_0 : Int) : Option Bool :=
  some (x_0 != x_0)

noncomputable def M.cmp_Compare_int (x_0 : Int) (y_1 : Int) : Option Int :=
  (M.cmp_isNaN_int x_0).bind fun r1 =>
  (M.cmp_isNaN_int y_1).bind fun r5 =>
  (bif r1 then
  (bif r5 then
  some 0
 else
  some (-1))
 else
  (bif r5 then
  some 1
 else
  (bif decide (x_0 < y_1) then
  some (-1)
 else
  (bif decide (y_1 < x_0) then
  some 1
 else
  some 0))))

end Go.Vs

namespace Go.Vs

end Go.Vs

namespace Go.Vs

noncomputable def M.laws_eqIntS (a_0 : List Int) (b_1 : List Int) : Option Bool :=
  (bif (a_0.length : Int) != (b_1.length : Int) then
  some false
 else
  Option.bind (loopM (fun (s3 : (Int)) => (bif decide (s3 < (a_0.length : Int)) then
  (gidx a_0 s3).bind fun x9 =>
  (gidx b_1 s3).bind fun x14 =>
  (bif x9 != x14 then
  some (.inr (.inr false))
 else
  some (.inl (w64 (s3 + 1))))
 else
  some (.inr (.inl ())))) 0) (selim (fun t21 => some true)
   (fun t23 => some t23)))

noncomputable def M.laws_heldIntS (a_0 : List Int) (k_1 : Int) : Option Int :=
  Option.bind (loopM (fun (s2 : (Int) × (Int)) => (bif decide (s2.2 < (a_0.length : Int)) then
  (gidx a_0 s2.2).bind fun x7 =>
  (bif x7 != s2.1 then
  some (.inr (.inr (-1)))
 else
  some (.inl (w64 (s2.1 + 1), w64 (s2.2 + 1))))
 else
  some (.inr (.inl s2.1)))) (k_1, 0)) (selim (fun t13 => some t13)
   (fun t15 => some t15))

end Go.Vs

namespace Go.Vs

end Go.Vs

namespace Go.Vs

end Go.Vs

namespace Go.Vs

noncomputable def M.cmp_Or_int (vals_0 : List Int) : Option Int :=
  Option.bind (loopM (fun (s2 : (Int)) => (bif decide (s2 < (vals_0.length : Int)) then
  (gidx vals_0 s2).bind fun x5 =>
  (bif x5 != 0 then
  some (.inr (.inr x5))
 else
  some (.inl (w64 (s2 + 1))))
 else
  some (.inr (.inl ())))) 0) (selim (fun t12 => some 0)
   (fun t14 => some t14))

noncomputable def M.impl_compareHits (a_0 : Int × Int) (b_1 : Int × Int) : Option Int :=
  (M.cmp_Compare_int a_0.2 b_1.2).bind fun r7 =>
  (M.cmp_Compare_int a_0.1 b_1.1).bind fun r13 =>
  (M.cmp_Or_int ([r7, r13] : List Int)).bind fun r21 =>
  some r21

noncomputable def M.spec_nearer (a_0 : Int × Int) (b_1 : Int × Int) : Option Bool :=
  (bif decide (a_0.2 < b_1.2) then
  some true
 else
  (bif a_0.2 == b_1.2 then
  some (decide (a_0.1 < b_1.1))
 else
  some false))

end Go.Vs

namespace Go.Vs

end Go.Vs

namespace Go.Vs

noncomputable def M.laws_markIntS (a_0 : List Int) (k_1 : Int) : Option (Int × (List Int)) :=
  Option.bind (loopM (fun (s2 : (List Int) × (Int) × (Int)) => (bif decide (s2.2.2 < (s2.1.length : Int)) then
  (gidx s2.1 s2.2.2).bind fun x6 =>
  some (.inl ((s2.1.set s2.2.2.toNat s2.2.1), w64 (s2.2.1 + 1), w64 (s2.2.2 + 1)))
 else
  some (.inr (s2.1, s2.2.1)))) (a_0, k_1, 0)) fun o1 =>
  some (o1.2, o1.1)

end Go.Vs

namespace Go.Vs

noncomputable def M.slices_xorshift_Next (r_0 : Int) : Option (Int × Int) :=
  some (gxork .u64 (gxork .u64 (gxork .u64 r_0 (gshl .u64 r_0 13)) (gshr .u64 (gxork .u64 r_0 (gshl .u64 r_0 13)) 7)) (gshl .u64 (gxork .u64 (gxork .u64 r_0 (gshl .u64 r_0 13)) (gshr .u64 (gxork .u64 r_0 (gshl .u64 r_0 13)) 7)) 17), gxork .u64 (gxork .u64 (gxork .u64 r_0 (gshl .u64 r_0 13)) (gshr .u64 (gxork .u64 r_0 (gshl .u64 r_0 13)) 7)) (gshl .u64 (gxork .u64 (gxork .u64 r_0 (gshl .u64 r_0 13)) (gshr .u64 (gxork .u64 r_0 (gshl .u64 r_0 13)) 7)) 17))

noncomputable def M.slices_SortFunc_impl_Hit_impl_Hit__impl_compareHits (x_0 : List (Int × Int)) : Option (List (Int × Int)) :=
  M.sortD (fun x y => M.impl_compareHits (x.1, x.2) (y.1, y.2)) x_0

end Go.Vs

namespace Go.Vs

end Go.Vs

namespace Go.Vs

noncomputable def M.laws_eqHit (a_0 : Int × Int) (b_1 : Int × Int) : Option Bool :=
  (bif a_0.1 != b_1.1 then
  some false
 else
  (bif a_0.2 != b_1.2 then
  some false
 else
  some true))

noncomputable def M.laws_eqHitS (a_0 : List (Int × Int)) (b_1 : List (Int × Int)) : Option Bool :=
  (bif (a_0.length : Int) != (b_1.length : Int) then
  some false
 else
  Option.bind (loopM (fun (s3 : (Int)) => (bif decide (s3 < (a_0.length : Int)) then
  (gidx a_0 s3).bind fun x6 =>
  (gidx b_1 s3).bind fun x13 =>
  (M.laws_eqHit (x6.1, x6.2) (x13.1, x13.2)).bind fun r21 =>
  (bif !r21 then
  some (.inr (.inr false))
 else
  some (.inl (w64 (s3 + 1))))
 else
  some (.inr (.inl ())))) 0) (selim (fun t26 => some true)
   (fun t28 => some t28)))

noncomputable def M.laws_markHitS (a_0 : List (Int × Int)) (k_1 : Int) : Option (Int × (List (Int × Int))) :=
  Option.bind (loopM (fun (s2 : (List (Int × Int)) × (Int) × (Int)) => (bif decide (s2.2.2 < (s2.1.length : Int)) then
  (gidx s2.1 s2.2.2).bind fun x6 =>
  (gidx (s2.1.set s2.2.2.toNat (s2.2.1, x6.2)) s2.2.2).bind fun x12 =>
  some (.inl (((s2.1.set s2.2.2.toNat (s2.2.1, x6.2)).set s2.2.2.toNat (x12.1, w64 (s2.2.1 + 1))), w64 ((w64 (s2.2.1 + 1)) + 1), w64 (s2.2.2 + 1)))
 else
  some (.inr (s2.1, s2.2.1)))) (a_0, k_1, 0)) fun o1 =>
  some (o1.2, o1.1)

end Go.Vs

namespace Go.Vs

end Go.Vs

namespace Go.Vs

end Go.Vs

namespace Go.Vs

end Go.Vs

namespace Go.Vs

end Go.Vs

namespace Go.Vs

end Go.Vs

namespace Go.Vs

end Go.Vs

namespace Go.Vs

end Go.Vs

namespace Go.Vs

end Go.Vs

namespace Go.Vs

end Go.Vs

namespace Go.Vs

end Go.Vs

namespace Go.Vs

end Go.Vs

namespace Go.Vs

end Go.Vs

namespace Go.Vs

noncomputable def M.laws_szHitS (a_0 : List (Int × Int)) (left_1 : Int) : Option Int :=
  (bif decide ((w64 (left_1 - (a_0.length : Int))) < 0) then
  some (-1)
 else
  some (w64 (left_1 - (a_0.length : Int))))

noncomputable def M.laws_toHit (a_0 : Int × Int) : Option ((Int × Int)) :=
  some (a_0.1, a_0.2)

noncomputable def M.laws_toHitS (a_0 : List (Int × Int)) : Option ((List (Int × Int))) :=
  (gmake (a_0.length : Int) ((0, 0) : Int × Int)).bind fun xs1 =>
  Option.bind (loopM (fun (s8 : (List (Int × Int)) × (Int)) => (bif decide (s8.2 < (a_0.length : Int)) then
  (gidx a_0 s8.2).bind fun x13 =>
  (M.laws_toHit (x13.1, x13.2)).bind fun r20 =>
  (gidx s8.1 s8.2).bind fun x24 =>
  some (.inl ((s8.1.set s8.2.toNat (r20.1, r20.2)), w64 (s8.2 + 1)))
 else
  some (.inr s8.1))) (xs1, 0)) fun o7 =>
  some o7

noncomputable def M.spec_validHits (list_0 : List (Int × Int)) : Option Bool :=
  Option.bind (loopM (fun (s2 : (Int)) => (bif decide (s2 < (list_0.length : Int)) then
  Option.bind ((gidx list_0 s2).bind fun x6 =>
  (M.spec_inRange x6.1 1 99).bind fun r12 =>
  (bif !r12 then
  some true
 else
  (gidx list_0 s2).bind fun x17 =>
  (M.spec_inRange x17.2 0 1000000).bind fun r23 =>
  (bif !r23 then
  some true
 else
  (bif decide (0 < s2) then
  (gidx list_0 (w64 (s2 - 1))).bind fun x29 =>
  (gidx list_0 s2).bind fun x36 =>
  (M.spec_nearer (x29.1, x29.2) (x36.1, x36.2)).bind fun r44 =>
  some (!r44)
 else
  some false)))) fun o5 =>
  (bif o5 then
  some (.inr (.inr false))
 else
  Option.bind (loopM (fun (s52 : (Int)) => (bif decide (s52 < s2) then
  (gidx list_0 s52).bind fun x55 =>
  (gidx list_0 s2).bind fun x61 =>
  (bif x55.1 == x61.1 then
  some (.inr (.inr false))
 else
  some (.inl (w64 (s52 + 1))))
 else
  some (.inr (.inl ())))) 0) (selim (fun t70 => some (.inl (w64 (s2 + 1))))
   (fun t72 => some (.inr (.inr t72)))))
 else
  some (.inr (.inl ())))) 0) (selim (fun t74 => some (decide ((list_0.length : Int) ≤ 16)))
   (fun t76 => some t76))

noncomputable def M.spec_hitAt (list_0 : List (Int × Int)) (key_1 : Int) : Option Int :=
  Option.bind (loopM (fun (s2 : (Int)) => (bif decide (s2 < (list_0.length : Int)) then
  (gidx list_0 s2).bind fun x5 =>
  (bif x5.1 == key_1 then
  some (.inr (.inr s2))
 else
  some (.inl (w64 (s2 + 1))))
 else
  some (.inr (.inl ())))) 0) (selim (fun t12 => some (-1))
   (fun t14 => some t14))

noncomputable def M.spec_rankScore (list_0 : List (Int × Int)) (key_1 : Int) : Option Int :=
  (M.spec_hitAt list_0 key_1).bind fun r1 =>
  (bif decide (r1 < 0) then
  some 0
 else
  (gquo 100000 (w64 ((w64 (60 + r1)) + 1))).bind fun q6 =>
  some q6)

noncomputable def M.spec_scoreOf (a_0 : List (Int × Int)) (b_1 : List (Int × Int)) (key_2 : Int) : Option Int :=
  (M.spec_rankScore a_0 key_2).bind fun r1 =>
  (M.spec_rankScore b_1 key_2).bind fun r5 =>
  some (w64 (r1 + r5))

noncomputable def M.spec_FuseRanks (a_0 : List (Int × Int)) (b_1 : List (Int × Int)) : Option ((List Int)) :=
  Option.bind ((M.spec_validHits a_0).bind fun r4 =>
  (bif !r4 then
  some true
 else
  (M.spec_validHits b_1).bind fun r9 =>
  some (!r9))) fun o3 =>
  (bif o3 then
  some []
 else
  Option.bind (loopM (fun (s16 : (List Int) × (Int)) => (bif decide (s16.2 ≤ 99) then
  Option.bind (Option.bind ((M.spec_hitAt a_0 s16.2).bind fun r23 =>
  (bif decide (r23 < 0) then
  (M.spec_hitAt b_1 s16.2).bind fun r28 =>
  some (decide (r28 < 0))
 else
  some false)) fun o22 =>
  (bif o22 then
  some s16.1
 else
  (gapp s16.1 ([s16.2] : List Int)).bind fun xs36 =>
  Option.bind (loopM (fun (s42 : (List Int) × (Int)) => Option.bind ((bif decide (0 < s42.2) then
  (gidx s42.1 s42.2).bind fun x47 =>
  (M.spec_scoreOf a_0 b_1 x47).bind fun r53 =>
  (gidx s42.1 (w64 (s42.2 - 1))).bind fun x56 =>
  (M.spec_scoreOf a_0 b_1 x56).bind fun r63 =>
  some (decide (r63 < r53))
 else
  some false)) fun o45 =>
  (bif o45 then
  (gidx s42.1 s42.2).bind fun x70 =>
  (gidx s42.1 (w64 (s42.2 - 1))).bind fun x76 =>
  (gidx s42.1 s42.2).bind fun x82 =>
  (gidx (s42.1.set s42.2.toNat x76) (w64 (s42.2 - 1))).bind fun x88 =>
  some (.inl (((s42.1.set s42.2.toNat x76).set (w64 (s42.2 - 1)).toNat x70), w64 (s42.2 - 1)))
 else
  some (.inr s42.1))) (xs36, w64 ((xs36.length : Int) - 1))) fun o41 =>
  some o41)) fun o21 =>
  some (.inl (o21, w64 (s16.2 + 1)))
 else
  some (.inr s16.1))) (([] : List Int), 1)) fun o15 =>
  some o15)

end Go.Vs

namespace Go.Vs

end Go.Vs

namespace Go.Vs

end Go.Vs

namespace Go.Vs

end Go.Vs

namespace Go.Vs

end Go.Vs

namespace Go.Vs

noncomputable def M.impl_validHit (h_0 : Int × Int) : Option Bool :=
  (M.impl_validKey h_0.1).bind fun r4 =>
  (bif r4 then
  (bif decide (0 ≤ h_0.2) then
  some (decide (h_0.2 ≤ 1000000))
 else
  some false)
 else
  some false)

noncomputable def M.impl_placeIn_1__p3 (h_0 : Int × Int) (p_1 : Int) : Option Bool :=
  some (h_0.1 == p_1)

noncomputable def M.slices_IndexFunc_impl_Hit_impl_Hit__impl_placeIn_1 (s_0 : List (Int × Int)) (f_1_0 : Int) : Option Int :=
  Option.bind (loopM (fun (s2 : (Int)) => (bif decide (s2 < (s_0.length : Int)) then
  (gidx s_0 s2).bind fun x5 =>
  (M.impl_placeIn_1__p3 (x5.1, x5.2) f_1_0).bind fun r12 =>
  (bif r12 then
  some (.inr (.inr s2))
 else
  some (.inl (w64 (s2 + 1))))
 else
  some (.inr (.inl ())))) 0) (selim (fun t17 => some (-1))
   (fun t19 => some t19))

noncomputable def M.impl_placeIn (list_0 : List (Int × Int)) (key_1 : Int) : Option Int :=
  (M.slices_IndexFunc_impl_Hit_impl_Hit__impl_placeIn_1 list_0 key_1).bind fun r3 =>
  some r3

noncomputable def M.impl_ValidHits (list_0 : List (Int × Int)) : Option Bool :=
  (bif decide (16 < (list_0.length : Int)) then
  some false
 else
  Option.bind (loopM (fun (s3 : (Int)) => (bif decide (s3 < (list_0.length : Int)) then
  (gidx list_0 s3).bind fun x6 =>
  Option.bind ((M.impl_validHit (x6.1, x6.2)).bind fun r18 =>
  (bif !r18 then
  some true
 else
  (bif decide (0 < s3) then
  (gidx list_0 (w64 (s3 - 1))).bind fun x24 =>
  (M.impl_compareHits (x24.1, x24.2) (x6.1, x6.2)).bind fun r33 =>
  some (decide (0 ≤ r33))
 else
  some false))) fun o16 =>
  (bif o16 then
  some (.inr (.inr false))
 else
  (gslice list_0 0 s3).bind fun xs40 =>
  (M.impl_placeIn xs40 x6.1).bind fun r49 =>
  (bif decide (0 ≤ r49) then
  some (.inr (.inr false))
 else
  some (.inl (w64 (s3 + 1)))))
 else
  some (.inr (.inl ())))) 0) (selim (fun t54 => some true)
   (fun t56 => some t56)))

noncomputable def M.slices_Grow_impl_Hit_impl_Hit (s_0 : List (Int × Int)) (n_1 : Int) : Option ((List (Int × Int))) :=
  (bif decide (n_1 < 0) then
  none
 else
  Option.bind ((bif decide (0 < (w64 (n_1 - (w64 ((s_0.length : Int) - (s_0.length : Int)))))) then
  (gslice s_0 0 (s_0.length : Int)).bind fun xs4 =>
  (gappz xs4 (w64 (n_1 - (w64 ((s_0.length : Int) - (s_0.length : Int))))) ((0, 0) : Int × Int)).bind fun xs10 =>
  (gslice xs10 0 (s_0.length : Int)).bind fun xs15 =>
  some xs15
 else
  some s_0)) fun o2 =>
  some o2)

noncomputable def M.slices_Concat_impl_Hit_impl_Hit (slices_0 : List (List (Int × Int))) : Option ((List (Int × Int))) :=
  Option.bind (loopM (fun (s2 : (Int) × (Int)) => (bif decide (s2.2 < (slices_0.length : Int)) then
  (gidx slices_0 s2.2).bind fun x5 =>
  (bif decide ((w64 (s2.1 + (x5.length : Int))) < 0) then
  none
 else
  some (.inl (w64 (s2.1 + (x5.length : Int)), w64 (s2.2 + 1))))
 else
  some (.inr s2.1))) (0, 0)) fun o1 =>
  (M.slices_Grow_impl_Hit_impl_Hit ([] : List (Int × Int)) o1).bind fun r17 =>
  Option.bind (loopM (fun (s24 : (List (Int × Int)) × (Int)) => (bif decide (s24.2 < (slices_0.length : Int)) then
  (gidx slices_0 s24.2).bind fun x29 =>
  (gapp s24.1 x29).bind fun xs39 =>
  some (.inl (xs39, w64 (s24.2 + 1)))
 else
  some (.inr s24.1))) (r17, 0)) fun o23 =>
  some o23

noncomputable def M.impl_mergedHits (a_0 : List (Int × Int)) (b_1 : List (Int × Int)) : Option ((List (Int × Int))) :=
  (M.slices_Concat_impl_Hit_impl_Hit ([a_0, b_1] : List (List (Int × Int)))).bind fun r5 =>
  (M.slices_SortFunc_impl_Hit_impl_Hit__impl_compareHits r5).bind fun r11 =>
  Option.bind (loopM (fun (s17 : (List (Int × Int)) × (Int)) => (bif decide (s17.2 < (r11.length : Int)) then
  Option.bind ((gidx r11 s17.2).bind fun x23 =>
  (M.impl_placeIn s17.1 x23.1).bind fun r34 =>
  (bif decide (r34 < 0) then
  (gapp s17.1 ([(x23.1, x23.2)] : List (Int × Int))).bind fun xs42 =>
  some xs42
 else
  some s17.1)) fun o22 =>
  some (.inl (o22, w64 (s17.2 + 1)))
 else
  some (.inr s17.1))) ([], 0)) fun o16 =>
  some o16

noncomputable def M.impl_RankScore (list_0 : List (Int × Int)) (key_1 : Int) : Option Int :=
  (M.impl_ValidHits list_0).bind fun r1 =>
  (bif !r1 then
  some (-1)
 else
  (M.impl_placeIn list_0 key_1).bind fun r6 =>
  (bif decide (r6 < 0) then
  some 0
 else
  (gquo 100000 (w64 ((w64 (60 + r6)) + 1))).bind fun q11 =>
  some q11))

end Go.Vs

namespace Go.Vs

end Go.Vs

namespace Go.Vs

end Go.Vs

namespace Go.Vs

noncomputable def M.maps_Keys_map_int_int_int_int (m_0 : List (Int × Int)) : Option Unit :=
  some ()

noncomputable def M.impl_FuseRanks_1__p_map_int_int (x_0 : Int) (y_1 : Int) (p_2 : List (Int × Int)) : Option Int :=
  (M.cmp_Compare_int (iget p_2 y_1) (iget p_2 x_0)).bind fun r5 =>
  (M.cmp_Compare_int x_0 y_1).bind fun r9 =>
  (M.cmp_Or_int ([r5, r9] : List Int)).bind fun r17 =>
  some r17

noncomputable def M.slices_SortedFunc_int__maps_Keys_map_int_int_int_int_1__impl_FuseRanks_1 (seq_0_0 : List (Int × Int)) (cmp_1_0 : List (Int × Int)) : Option (List Int) :=
  M.sortD (fun x y => M.impl_FuseRanks_1__p_map_int_int x y seq_0_0) (seq_0_0.map (·.1))

noncomputable def M.impl_FuseRanks (a_0 : List (Int × Int)) (b_1 : List (Int × Int)) : Option ((List Int)) :=
  Option.bind ((M.impl_ValidHits a_0).bind fun r2 =>
  (bif !r2 then
  some true
 else
  (M.impl_ValidHits b_1).bind fun r7 =>
  some (!r7))) fun o1 =>
  (bif o1 then
  some []
 else
  (M.impl_mergedHits a_0 b_1).bind fun r20 =>
  Option.bind (loopM (fun (s27 : (List (Int × Int)) × (Int)) => (bif decide (s27.2 < (r20.length : Int)) then
  (gidx r20 s27.2).bind fun x33 =>
  (M.impl_RankScore a_0 x33.1).bind fun r46 =>
  (M.impl_RankScore b_1 x33.1).bind fun r50 =>
  some (.inl ((iput s27.1 x33.1 (w64 (r46 + r50))), w64 (s27.2 + 1)))
 else
  some (.inr s27.1))) (([] : List (Int × Int)), 0)) fun o26 =>
  (M.maps_Keys_map_int_int_int_int o26).bind fun r63 =>
  (M.slices_SortedFunc_int__maps_Keys_map_int_int_int_int_1__impl_FuseRanks_1 o26 o26).bind fun r68 =>
  some r68)

noncomputable def M.laws_FnExactFuseRanks (aA_0 : List (Int × Int)) (aB_1 : List (Int × Int)) : Option Bool :=
  (M.laws_szHitS aA_0 1048576).bind fun r1 =>
  (bif decide (r1 < 0) then
  some true
 else
  (M.laws_szHitS aB_1 r1).bind fun r6 =>
  (bif decide (r6 < 0) then
  some true
 else
  (M.laws_toHitS aA_0).bind fun r11 =>
  (M.laws_toHitS aB_1).bind fun r18 =>
  (M.spec_FuseRanks r11 r18).bind fun r29 =>
  (M.laws_toHitS aA_0).bind fun r35 =>
  (M.laws_toHitS aB_1).bind fun r42 =>
  (M.impl_FuseRanks r35 r42).bind fun r49 =>
  (M.laws_eqIntS r49 r29).bind fun r55 =>
  (bif !r55 then
  some false
 else
  (M.laws_toHitS aA_0).bind fun r60 =>
  (M.laws_eqHitS r35 r60).bind fun r69 =>
  (bif !r69 then
  some false
 else
  (M.laws_toHitS aB_1).bind fun r74 =>
  (M.laws_eqHitS r42 r74).bind fun r83 =>
  (bif !r83 then
  some false
 else
  (M.laws_markHitS r35 1).bind fun r88 =>
  (M.laws_markHitS r42 r88.1).bind fun r93 =>
  Option.bind ((bif decide (r93.1 < 0) then
  some true
 else
  (M.laws_eqIntS r49 r29).bind fun r100 =>
  some (!r100))) fun o98 =>
  (bif o98 then
  some false
 else
  (M.laws_markIntS r49 1).bind fun r106 =>
  (M.laws_heldIntS r106.2 1).bind fun r111 =>
  (bif decide (r111 < 0) then
  some false
 else
  (bif r111 != r106.1 then
  some false
 else
  (M.laws_toHitS aA_0).bind fun r117 =>
  (M.laws_toHitS aB_1).bind fun r124 =>
  (M.impl_FuseRanks r117 r124).bind fun r135 =>
  (M.laws_eqIntS r135 r29).bind fun r145 =>
  (bif !r145 then
  some false
 else
  (M.laws_heldIntS r106.2 1).bind fun r152 =>
  (bif decide (r152 < 0) then
  some false
 else
  (bif r152 != r106.1 then
  some false
 else
  some true)))))))))))

end Go.Vs
