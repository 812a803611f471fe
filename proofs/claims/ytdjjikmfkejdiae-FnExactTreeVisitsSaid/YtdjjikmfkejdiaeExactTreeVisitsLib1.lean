/- What the functions compute. -/
import Derived.Test.YtdjjikmfkejdiaeExactTreeVisitsEng1
import Derived.Test.YtdjjikmfkejdiaeExactTreeVisitsEng2
set_option linter.unusedVariables false
set_option linter.unusedSimpArgs false
namespace Go.Vs

noncomputable def M.impl_validCoords (coords_0 : List Int) : Option Bool :=
  Option.bind (loopM (fun (s2 : (Int)) => (bif decide (s2 < (coords_0.length : Int)) then
  (gidx coords_0 s2).bind fun x5 =>
  Option.bind ((bif decide (x5 < (-100)) then
  some true
 else
  some (decide (100 < x5)))) fun o11 =>
  (bif o11 then
  some (.inr (.inr false))
 else
  some (.inl (w64 (s2 + 1))))
 else
  some (.inr (.inl ())))) 0) (selim (fun t15 => some true)
   (fun t17 => some t17))

noncomputable def M.impl_ValidVector (v_0 : List Int) : Option Bool :=
  (bif (v_0.length : Int) == 4 then
  (M.impl_validCoords v_0).bind fun r2 =>
  some r2
 else
  some false)

noncomputable def M.spec_inRange (n_0 : Int) (low_1 : Int) (high_2 : Int) : Option Bool :=
  (bif decide (low_1 ≤ n_0) then
  some (decide (n_0 ≤ high_2))
 else
  some false)

noncomputable def M.spec_allIn (list_0 : List Int) (low_1 : Int) (high_2 : Int) : Option Bool :=
  Option.bind (loopM (fun (s2 : (Int)) => (bif decide (s2 < (list_0.length : Int)) then
  (gidx list_0 s2).bind fun x7 =>
  (M.spec_inRange x7 low_1 high_2).bind fun r12 =>
  (bif !r12 then
  some (.inr (.inr false))
 else
  some (.inl (w64 (s2 + 1))))
 else
  some (.inr (.inl ())))) 0) (selim (fun t17 => some true)
   (fun t19 => some t19))

noncomputable def M.spec_isVector (v_0 : List Int) : Option Bool :=
  (bif (v_0.length : Int) == 4 then
  (M.spec_allIn v_0 (-100) 100).bind fun r2 =>
  some r2
 else
  some false)

noncomputable def M.impl_distanceOf (kind_0 : Int) (gaps_1 : List Int) : Option Int :=
  Option.bind (loopM (fun (s8 : (Int) × (Int)) => (bif decide (s8.2 < 4) then
  Option.bind ((gidx gaps_1 s8.2).bind fun x13 =>
  (bif kind_0 == 1 then
  some (.inl (w64 (s8.1 + x13)))
 else
  (bif kind_0 == 2 then
  some (.inl (max s8.1 x13))
 else
  (bif kind_0 == 3 then
  some (.inl (w64 (s8.1 + (w64 (x13 * x13)))))
 else
  (bif kind_0 == 4 then
  some (.inl (w64 (s8.1 + (min x13 1))))
 else
  some (.inr (-1))))))) (selim (fun t19 => some (.inl (t19, w64 (s8.2 + 1))))
   (fun t21 => some (.inr (.inr t21))))
 else
  some (.inr (.inl s8.1)))) (0, 0)) (selim (fun t23 => some t23)
   (fun t25 => some t25))

noncomputable def M.impl_gapsOf (a_0 : List Int) (b_1 : List Int) : Option ((List Int)) :=
  Option.bind (loopM (fun (s32 : (List Int) × (Int)) => (bif decide (s32.2 < 4) then
  (gidx a_0 s32.2).bind fun x47 =>
  (gidx b_1 s32.2).bind fun x50 =>
  (gidx b_1 s32.2).bind fun x53 =>
  (gidx a_0 s32.2).bind fun x56 =>
  (gidx s32.1 s32.2).bind fun x60 =>
  some (.inl ((s32.1.set s32.2.toNat (max (w64 (x47 - x50)) (w64 (x53 - x56)))), w64 (s32.2 + 1)))
 else
  some (.inr s32.1))) ((List.replicate 4 0), 0)) fun o31 =>
  some o31

noncomputable def M.impl_Distance (kind_0 : Int) (a_1 : List Int) (b_2 : List Int) : Option Int :=
  Option.bind ((M.impl_ValidVector a_1).bind fun r2 =>
  (bif !r2 then
  some true
 else
  (M.impl_ValidVector b_2).bind fun r7 =>
  some (!r7))) fun o1 =>
  (bif o1 then
  some (-1)
 else
  (garr 4 a_1).bind fun xs15 =>
  (garr 4 b_2).bind fun xs22 =>
  (M.impl_gapsOf (List.take 4 a_1) (List.take 4 b_2)).bind fun r29 =>
  (M.impl_distanceOf kind_0 r29).bind fun r33 =>
  some r33)

noncomputable def M.spec_validKind (kind_0 : Int) : Option Bool :=
  (M.spec_inRange kind_0 1 4).bind fun r1 =>
  some r1

noncomputable def M.spec_size (n_0 : Int) : Option Int :=
  some (max n_0 (w64 (0 - n_0)))

noncomputable def M.spec_toInt (b_0 : Bool) : Option Int :=
  (bif b_0 then
  some 1
 else
  some 0)

noncomputable def M.spec_dist (kind_0 : Int) (a_1 : List Int) (b_2 : List Int) : Option Int :=
  Option.bind (loopM (fun (s2 : (Int) × (Int)) => (bif decide (s2.2 < (a_1.length : Int)) then
  Option.bind ((gidx a_1 s2.2).bind fun x9 =>
  (gidx b_2 s2.2).bind fun x14 =>
  (M.spec_size (w64 (x9 - x14))).bind fun r20 =>
  (bif kind_0 == 1 then
  some (w64 (s2.1 + r20))
 else
  (bif kind_0 == 2 then
  some (max s2.1 r20)
 else
  (bif kind_0 == 3 then
  some (w64 (s2.1 + (w64 (r20 * r20))))
 else
  (M.spec_toInt (decide (0 < r20))).bind fun r27 =>
  some (w64 (s2.1 + r27)))))) fun o8 =>
  some (.inl (o8, w64 (s2.2 + 1)))
 else
  some (.inr s2.1))) (0, 0)) fun o1 =>
  some o1

noncomputable def M.laws_equalInts (a_0 : List Int) (b_1 : List Int) : Option Bool :=
  (bif (a_0.length : Int) != (b_1.length : Int) then
  some false
 else
  Option.bind (loopM (fun (s3 : (Int)) => (bif decide (s3 < (a_0.length : Int)) then
  (gidx a_0 s3).bind fun x9 =>
  (gidx b_1 s3).bind fun x14 =>
  (bif x9 != x14 then
  some (.inr (.inr false))
 else
  some (.inl (w64 (s3 + 1))))
 else
  some (.inr (.inl ())))) 0) (selim (fun t21 => some true)
   (fun t23 => some t23)))

noncomputable def M.spec_validItem (x_0 : Int × (List Int) × Int) : Option Bool :=
  (M.spec_inRange x_0.1 1 99).bind fun r7 =>
  (bif r7 then
  (M.spec_isVector x_0.2.1).bind fun r13 =>
  (bif r13 then
  (M.spec_inRange x_0.2.2 0 15).bind fun r19 =>
  some r19
 else
  some false)
 else
  some false)

noncomputable def M.spec_validStore (list_0 : List (Int × (List Int) × Int)) : Option Bool :=
  Option.bind (loopM (fun (s2 : (Int)) => (bif decide (s2 < (list_0.length : Int)) then
  Option.bind ((gidx list_0 s2).bind fun x8 =>
  (M.spec_validItem (x8.1, x8.2.1, x8.2.2)).bind fun r19 =>
  (bif !r19 then
  some true
 else
  (bif decide (0 < s2) then
  (gidx list_0 s2).bind fun x24 =>
  (gidx list_0 (w64 (s2 - 1))).bind fun x29 =>
  some (decide (x24.1 ≤ x29.1))
 else
  some false))) fun o7 =>
  (bif o7 then
  some (.inr (.inr false))
 else
  some (.inl (w64 (s2 + 1))))
 else
  some (.inr (.inl ())))) 0) (selim (fun t39 => some (decide ((list_0.length : Int) ≤ 16)))
   (fun t42 => some t42))

noncomputable def M.impl_validKey (key_0 : Int) : Option Bool :=
  (bif decide (1 ≤ key_0) then
  some (decide (key_0 ≤ 99))
 else
  some false)

noncomputable def M.impl_validTags (tags_0 : Int) : Option Bool :=
  (bif decide (0 ≤ tags_0) then
  some (decide (tags_0 ≤ 15))
 else
  some false)

noncomputable def M.impl_validItem (x_0 : Int × (List Int) × Int) : Option Bool :=
  (M.impl_validKey x_0.1).bind fun r4 =>
  (bif r4 then
  (M.impl_ValidVector x_0.2.1).bind fun r10 =>
  (bif r10 then
  (M.impl_validTags x_0.2.2).bind fun r16 =>
  some r16
 else
  some false)
 else
  some false)

noncomputable def M.impl_ValidStore (list_0 : List (Int × (List Int) × Int)) : Option Bool :=
  (bif decide (16 < (list_0.length : Int)) then
  some false
 else
  Option.bind (loopM (fun (s3 : (Int) × (Int)) => (bif decide (s3.2 < (list_0.length : Int)) then
  (gidx list_0 s3.2).bind fun x8 =>
  Option.bind ((M.impl_validItem (x8.1, x8.2.1, x8.2.2)).bind fun r30 =>
  (bif !r30 then
  some true
 else
  some (decide (x8.1 ≤ s3.1)))) fun o29 =>
  (bif o29 then
  some (.inr (.inr false))
 else
  some (.inl (x8.1, w64 (s3.2 + 1))))
 else
  some (.inr (.inl ())))) (0, 0)) (selim (fun t41 => some true)
   (fun t43 => some t43)))

noncomputable def M.cmp_isNaN_int (x_0 : Int) : Option Bool :=
  some (x_0 != x_0)

noncomputable def M.cmp_Compare_int (x_0 : Int) (y_1 : Int) : Option Int :=
  (M.cmp_isNaN_int x_0).bind fun r1 =>
  (M.cmp_isNaN_int y_1).bind fun r5 =>
  (bif r1 then
  (bif r5 then
  some 0
 else
  some (-1))
 else
  (bif r5 then
  some 1
 else
  (bif decide (x_0 < y_1) then
  some (-1)
 else
  (bif decide (y_1 < x_0) then
  some 1
 else
  some 0))))

end Go.Vs

namespace Go.Vs

noncomputable def M.spec_keyAt (list_0 : List (Int × (List Int) × Int)) (key_1 : Int) : Option Int :=
  Option.bind (loopM (fun (s2 : (Int)) => (bif decide (s2 < (list_0.length : Int)) then
  (gidx list_0 s2).bind fun x7 =>
  (bif x7.1 == key_1 then
  some (.inr (.inr s2))
 else
  some (.inl (w64 (s2 + 1))))
 else
  some (.inr (.inl ())))) 0) (selim (fun t13 => some (-1))
   (fun t15 => some t15))

end Go.Vs

namespace Go.Vs

noncomputable def M.laws_toIntS (a_0 : List Int) : Option ((List Int)) :=
  (gmake (a_0.length : Int) (0 : Int)).bind fun xs1 =>
  Option.bind (loopM (fun (s10 : (List Int) × (Int)) => (bif decide (s10.2 < (a_0.length : Int)) then
  (gidx a_0 s10.2).bind fun x18 =>
  (gidx s10.1 s10.2).bind fun x23 =>
  some (.inl ((s10.1.set s10.2.toNat x18), w64 (s10.2 + 1)))
 else
  some (.inr s10.1))) (xs1, 0)) fun o9 =>
  some o9

noncomputable def M.laws_eqIntS (a_0 : List Int) (b_1 : List Int) : Option Bool :=
  (bif (a_0.length : Int) != (b_1.length : Int) then
  some false
 else
  Option.bind (loopM (fun (s3 : (Int)) => (bif decide (s3 < (a_0.length : Int)) then
  (gidx a_0 s3).bind fun x9 =>
  (gidx b_1 s3).bind fun x14 =>
  (bif x9 != x14 then
  some (.inr (.inr false))
 else
  some (.inl (w64 (s3 + 1))))
 else
  some (.inr (.inl ())))) 0) (selim (fun t21 => some true)
   (fun t23 => some t23)))

noncomputable def M.laws_szIntS (a_0 : List Int) (left_1 : Int) : Option Int :=
  (bif decide ((w64 (left_1 - (a_0.length : Int))) < 0) then
  some (-1)
 else
  some (w64 (left_1 - (a_0.length : Int))))

noncomputable def M.laws_szItem (a_0 : Int × (List Int) × Int) (left_1 : Int) : Option Int :=
  (M.laws_szIntS a_0.2.1 left_1).bind fun r7 =>
  (bif decide (r7 < 0) then
  some (-1)
 else
  some r7)

noncomputable def M.laws_szItemS (a_0 : List (Int × (List Int) × Int)) (left_1 : Int) : Option Int :=
  (bif decide ((w64 (left_1 - (a_0.length : Int))) < 0) then
  some (-1)
 else
  Option.bind (loopM (fun (s3 : (Int) × (Int)) => (bif decide (s3.2 < (a_0.length : Int)) then
  (gidx a_0 s3.2).bind fun x8 =>
  (M.laws_szItem (x8.1, x8.2.1, x8.2.2) s3.1).bind fun r19 =>
  (bif decide (r19 < 0) then
  some (.inr (.inr (-1)))
 else
  some (.inl (r19, w64 (s3.2 + 1))))
 else
  some (.inr (.inl s3.1)))) (w64 (left_1 - (a_0.length : Int)), 0)) (selim (fun t24 => some t24)
   (fun t26 => some t26)))

noncomputable def M.laws_toItem (a_0 : Int × (List Int) × Int) : Option ((Int × (List Int) × Int)) :=
  (M.laws_toIntS a_0.2.1).bind fun r26 =>
  some (a_0.1, r26, a_0.2.2)

noncomputable def M.laws_toItemS (a_0 : List (Int × (List Int) × Int)) : Option ((List (Int × (List Int) × Int))) :=
  (gmake (a_0.length : Int) ((0, [], 0) : Int × (List Int) × Int)).bind fun xs1 =>
  Option.bind (loopM (fun (s10 : (List (Int × (List Int) × Int)) × (Int)) => (bif decide (s10.2 < (a_0.length : Int)) then
  (gidx a_0 s10.2).bind fun x18 =>
  (M.laws_toItem (x18.1, x18.2.1, x18.2.2)).bind fun r29 =>
  (gidx s10.1 s10.2).bind fun x37 =>
  some (.inl ((s10.1.set s10.2.toNat (r29.1, r29.2.1, r29.2.2)), w64 (s10.2 + 1)))
 else
  some (.inr s10.1))) (xs1, 0)) fun o9 =>
  some o9

noncomputable def M.laws_eqItem (a_0 : Int × (List Int) × Int) (b_1 : Int × (List Int) × Int) : Option Bool :=
  (bif a_0.1 != b_1.1 then
  some false
 else
  (M.laws_eqIntS a_0.2.1 b_1.2.1).bind fun r15 =>
  (bif !r15 then
  some false
 else
  (bif a_0.2.2 != b_1.2.2 then
  some false
 else
  some true)))

noncomputable def M.laws_eqItemS (a_0 : List (Int × (List Int) × Int)) (b_1 : List (Int × (List Int) × Int)) : Option Bool :=
  (bif (a_0.length : Int) != (b_1.length : Int) then
  some false
 else
  Option.bind (loopM (fun (s3 : (Int)) => (bif decide (s3 < (a_0.length : Int)) then
  (gidx a_0 s3).bind fun x9 =>
  (gidx b_1 s3).bind fun x20 =>
  (M.laws_eqItem (x9.1, x9.2.1, x9.2.2) (x20.1, x20.2.1, x20.2.2)).bind fun r32 =>
  (bif !r32 then
  some (.inr (.inr false))
 else
  some (.inl (w64 (s3 + 1))))
 else
  some (.inr (.inl ())))) 0) (selim (fun t37 => some true)
   (fun t39 => some t39)))

end Go.Vs

namespace Go.Vs

end Go.Vs

namespace Go.Vs

end Go.Vs

namespace Go.Vs

noncomputable def M.impl_validKind (kind_0 : Int) : Option Bool :=
  (bif decide (1 ≤ kind_0) then
  some (decide (kind_0 ≤ 4))
 else
  some false)

noncomputable def M.impl_validCount (k_0 : Int) : Option Bool :=
  (bif decide (1 ≤ k_0) then
  some (decide (k_0 ≤ 16))
 else
  some false)

noncomputable def M.impl_validSearch (list_0 : List (Int × (List Int) × Int)) (kind_1 : Int) (at_2 : List Int) (k_3 : Int) : Option Bool :=
  (M.impl_ValidStore list_0).bind fun r1 =>
  (bif r1 then
  (M.impl_validKind kind_1).bind fun r6 =>
  (bif r6 then
  (M.impl_ValidVector at_2).bind fun r11 =>
  (bif r11 then
  (M.impl_validCount k_3).bind fun r16 =>
  some r16
 else
  some false)
 else
  some false)
 else
  some false)

noncomputable def M.impl_hitHeap_Push__impl_Hit (h_0 : List (Int × Int)) (x_1 : Int × Int) : Option ((List (Int × Int))) :=
  (gapp h_0 ([(x_1.1, x_1.2)] : List (Int × Int))).bind fun xs3 =>
  some xs3

noncomputable def M.impl_hitHeap_Len (h_0 : List (Int × Int)) : Option Int :=
  some (h_0.length : Int)

noncomputable def M.cmp_Or_int (vals_0 : List Int) : Option Int :=
  Option.bind (loopM (fun (s2 : (Int)) => (bif decide (s2 < (vals_0.length : Int)) then
  (gidx vals_0 s2).bind fun x5 =>
  (bif x5 != 0 then
  some (.inr (.inr x5))
 else
  some (.inl (w64 (s2 + 1))))
 else
  some (.inr (.inl ())))) 0) (selim (fun t12 => some 0)
   (fun t14 => some t14))

noncomputable def M.impl_compareHits (a_0 : Int × Int) (b_1 : Int × Int) : Option Int :=
  (M.cmp_Compare_int a_0.2 b_1.2).bind fun r7 =>
  (M.cmp_Compare_int a_0.1 b_1.1).bind fun r13 =>
  (M.cmp_Or_int ([r7, r13] : List Int)).bind fun r21 =>
  some r21

noncomputable def M.impl_hitHeap_Less (h_0 : List (Int × Int)) (i_1 : Int) (j_2 : Int) : Option Bool :=
  (gidx h_0 i_1).bind fun x1 =>
  (gidx h_0 j_2).bind fun x8 =>
  (M.impl_compareHits (x1.1, x1.2) (x8.1, x8.2)).bind fun r16 =>
  some (decide (0 < r16))

noncomputable def M.impl_hitHeap_Swap (h_0 : List (Int × Int)) (i_1 : Int) (j_2 : Int) : Option ((List (Int × Int))) :=
  (gidx h_0 j_2).bind fun x1 =>
  (gidx h_0 i_1).bind fun x8 =>
  (gidx h_0 i_1).bind fun x15 =>
  (gidx (h_0.set i_1.toNat (x1.1, x1.2)) j_2).bind fun x21 =>
  some ((h_0.set i_1.toNat (x1.1, x1.2)).set j_2.toNat (x8.1, x8.2))

noncomputable def M.container_heap_up__impl_hitHeap (h_0 : List (Int × Int)) (j_1 : Int) : Option ((List (Int × Int))) :=
  Option.bind (loopM (fun (s2 : (List (Int × Int)) × (Int)) => Option.bind ((bif (w64 ((w64 (s2.2 - 1)).tdiv 2)) == s2.2 then
  some true
 else
  (M.impl_hitHeap_Less s2.1 s2.2 (w64 ((w64 (s2.2 - 1)).tdiv 2))).bind fun r8 =>
  some (!r8))) fun o6 =>
  (bif o6 then
  some (.inr s2.1)
 else
  (M.impl_hitHeap_Swap s2.1 (w64 ((w64 (s2.2 - 1)).tdiv 2)) s2.2).bind fun r14 =>
  some (.inl (r14, w64 ((w64 (s2.2 - 1)).tdiv 2))))) (h_0, j_1)) fun o1 =>
  some o1

noncomputable def M.container_heap_Push__impl_hitHeap__impl_Hit (h_0 : List (Int × Int)) (x_1 : Int × Int) : Option ((List (Int × Int))) :=
  (M.impl_hitHeap_Push__impl_Hit h_0 (x_1.1, x_1.2)).bind fun r1 =>
  (M.impl_hitHeap_Len r1).bind fun r7 =>
  (M.container_heap_up__impl_hitHeap r1 (w64 (r7 - 1))).bind fun r11 =>
  some r11

noncomputable def M.container_heap_down__impl_hitHeap (h_0 : List (Int × Int)) (i0_1 : Int) (n_2 : Int) : Option (Bool × (List (Int × Int))) :=
  Option.bind (loopM (fun (s2 : (List (Int × Int)) × (Int)) => Option.bind ((bif decide (n_2 ≤ (w64 ((w64 (2 * s2.2)) + 1))) then
  some true
 else
  some (decide ((w64 ((w64 (2 * s2.2)) + 1)) < 0)))) fun o6 =>
  (bif o6 then
  some (.inr (s2.1, s2.2))
 else
  Option.bind ((bif decide ((w64 ((w64 ((w64 (2 * s2.2)) + 1)) + 1)) < n_2) then
  (M.impl_hitHeap_Less s2.1 (w64 ((w64 ((w64 (2 * s2.2)) + 1)) + 1)) (w64 ((w64 (2 * s2.2)) + 1))).bind fun r12 =>
  some r12
 else
  some false)) fun o10 =>
  Option.bind ((bif o10 then
  some (w64 ((w64 ((w64 (2 * s2.2)) + 1)) + 1))
 else
  some (w64 ((w64 (2 * s2.2)) + 1)))) fun o17 =>
  (M.impl_hitHeap_Less s2.1 o17 s2.2).bind fun r20 =>
  (bif !r20 then
  some (.inr (s2.1, s2.2))
 else
  (M.impl_hitHeap_Swap s2.1 s2.2 o17).bind fun r25 =>
  some (.inl (r25, o17))))) (h_0, i0_1)) fun o1 =>
  some (decide (i0_1 < o1.2), o1.1)

noncomputable def M.impl_hitHeap_Pop (h_0 : List (Int × Int)) : Option (((Int) × (Int)) × (List (Int × Int))) :=
  (gidx h_0 (w64 ((h_0.length : Int) - 1))).bind fun x3 =>
  (gslice h_0 0 (w64 ((h_0.length : Int) - 1))).bind fun xs14 =>
  some ((x3.1, x3.2), xs14)

noncomputable def M.container_heap_Pop__impl_hitHeap (h_0 : List (Int × Int)) : Option (((Int) × (Int)) × (List (Int × Int))) :=
  (M.impl_hitHeap_Len h_0).bind fun r1 =>
  (M.impl_hitHeap_Swap h_0 0 (w64 (r1 - 1))).bind fun r5 =>
  (M.container_heap_down__impl_hitHeap r5 0 (w64 (r1 - 1))).bind fun r10 =>
  (M.impl_hitHeap_Pop r10.2).bind fun r18 =>
  some ((r18.1.1, r18.1.2), r18.2)

noncomputable def M.impl_nearestHits_offer (n_0 : Int × (List (Int × Int))) (h_1 : Int × Int) : Option ((Int × (List (Int × Int)))) :=
  (M.container_heap_Push__impl_hitHeap__impl_Hit n_0.2 (h_1.1, h_1.2)).bind fun r5 =>
  (bif decide (n_0.1 < (r5.length : Int)) then
  (M.container_heap_Pop__impl_hitHeap r5).bind fun r15 =>
  some (n_0.1, r15.2)
 else
  some (n_0.1, r5))

noncomputable def M.impl_hitOf (x_0 : Int × (List Int) × Int) (kind_1 : Int) (at_2 : List Int) : Option ((Int × Int)) :=
  (M.impl_Distance kind_1 x_0.2.1 at_2).bind fun r7 =>
  some (x_0.1, r7)

noncomputable def M.spec_validQuery (list_0 : List (Int × (List Int) × Int)) (kind_1 : Int) (at_2 : List Int) : Option Bool :=
  (M.spec_validStore list_0).bind fun r1 =>
  (bif r1 then
  (M.spec_validKind kind_1).bind fun r6 =>
  (bif r6 then
  (M.spec_isVector at_2).bind fun r11 =>
  some r11
 else
  some false)
 else
  some false)

noncomputable def M.spec_nearer (a_0 : Int × Int) (b_1 : Int × Int) : Option Bool :=
  (bif decide (a_0.2 < b_1.2) then
  some true
 else
  (bif a_0.2 == b_1.2 then
  some (decide (a_0.1 < b_1.1))
 else
  some false))

noncomputable def M.spec_addHit (list_0 : List (Int × Int)) (h_1 : Int × Int) (k_2 : Int) : Option ((List (Int × Int))) :=
  (gapp ([] : List (Int × Int)) list_0).bind fun xs4 =>
  (gapp xs4 ([(h_1.1, h_1.2)] : List (Int × Int))).bind fun xs11 =>
  Option.bind (loopM (fun (s17 : (List (Int × Int)) × (Int)) => Option.bind ((bif decide (0 < s17.2) then
  (gidx s17.1 s17.2).bind fun x22 =>
  (gidx s17.1 (w64 (s17.2 - 1))).bind fun x29 =>
  (M.spec_nearer (x22.1, x22.2) (x29.1, x29.2)).bind fun r37 =>
  some r37
 else
  some false)) fun o20 =>
  (bif o20 then
  (gidx s17.1 s17.2).bind fun x44 =>
  (gidx s17.1 (w64 (s17.2 - 1))).bind fun x54 =>
  (gidx s17.1 s17.2).bind fun x61 =>
  (gidx (s17.1.set s17.2.toNat (x54.1, x54.2)) (w64 (s17.2 - 1))).bind fun x68 =>
  some (.inl (((s17.1.set s17.2.toNat (x54.1, x54.2)).set (w64 (s17.2 - 1)).toNat (x44.1, x44.2)), w64 (s17.2 - 1)))
 else
  some (.inr s17.1))) (xs11, w64 ((xs11.length : Int) - 1))) fun o16 =>
  (gslice o16 0 (min k_2 (o16.length : Int))).bind fun xs76 =>
  some xs76

end Go.Vs

namespace Go.Vs

end Go.Vs

namespace Go.Vs

end Go.Vs

namespace Go.Vs

noncomputable def M.slices_xorshift_Next (r_0 : Int) : Option (Int × Int) :=
  some (gxork .u64 (gxork .u64 (gxork .u64 r_0 (gshl .u64 r_0 13)) (gshr .u64 (gxork .u64 r_0 (gshl .u64 r_0 13)) 7)) (gshl .u64 (gxork .u64 (gxork .u64 r_0 (gshl .u64 r_0 13)) (gshr .u64 (gxork .u64 r_0 (gshl .u64 r_0 13)) 7)) 17), gxork .u64 (gxork .u64 (gxork .u64 r_0 (gshl .u64 r_0 13)) (gshr .u64 (gxork .u64 r_0 (gshl .u64 r_0 13)) 7)) (gshl .u64 (gxork .u64 (gxork .u64 r_0 (gshl .u64 r_0 13)) (gshr .u64 (gxork .u64 r_0 (gshl .u64 r_0 13)) 7)) 17))

end Go.Vs

namespace Go.Vs

noncomputable def M.impl_validTreeKind (kind_0 : Int) : Option Bool :=
  (M.impl_validKind kind_0).bind fun r1 =>
  (bif r1 then
  some (kind_0 != 3)
 else
  some false)

noncomputable def M.slices_Clone_impl_Item_impl_Item (s_0 : List (Int × (List Int) × Int)) : Option ((List (Int × (List Int) × Int))) :=
  (gapp ([] : List (Int × (List Int) × Int)) s_0).bind fun xs4 =>
  some xs4

noncomputable def M.impl_sortByDistance_1__p3__p24 (x_0 : Int × (List Int) × Int) (y_1 : Int × (List Int) × Int) (p_2 : Int) (p_3 : List Int) : Option Int :=
  (M.impl_hitOf (x_0.1, x_0.2.1, x_0.2.2) p_2 p_3).bind fun r8 =>
  (M.impl_hitOf (y_1.1, y_1.2.1, y_1.2.2) p_2 p_3).bind fun r15 =>
  (M.impl_compareHits (r8.1, r8.2) (r15.1, r15.2)).bind fun r19 =>
  some r19

noncomputable def M.slices_SortFunc_impl_Item_impl_Item__impl_sortByDistance_1 (x_0 : List (Int × (List Int) × Int)) (cmp_1_0 : Int) (cmp_1_1 : List Int) : Option (List (Int × (List Int) × Int)) :=
  M.sortD (fun x y => M.impl_sortByDistance_1__p3__p24 (x.1, x.2.1, x.2.2) (y.1, y.2.1, y.2.2) cmp_1_0 cmp_1_1) x_0

noncomputable def M.impl_sortByDistance (list_0 : List (Int × (List Int) × Int)) (kind_1 : Int) (at_2 : List Int) : Option ((List (Int × (List Int) × Int))) :=
  (M.slices_Clone_impl_Item_impl_Item list_0).bind fun r5 =>
  (M.slices_SortFunc_impl_Item_impl_Item__impl_sortByDistance_1 r5 kind_1 at_2).bind fun r11 =>
  some r11

noncomputable def M.spec_isMetric (kind_0 : Int) : Option Bool :=
  (M.spec_validKind kind_0).bind fun r1 =>
  (bif r1 then
  some (kind_0 != 3)
 else
  some false)

noncomputable def M.spec_hit (x_0 : Int × (List Int) × Int) (kind_1 : Int) (at_2 : List Int) : Option ((Int × Int)) :=
  (M.spec_dist kind_1 x_0.2.1 at_2).bind fun r7 =>
  some (x_0.1, r7)

noncomputable def M.spec_byDist (list_0 : List (Int × (List Int) × Int)) (kind_1 : Int) (at_2 : List Int) : Option ((List (Int × (List Int) × Int))) :=
  Option.bind (loopM (fun (s4 : (List (Int × (List Int) × Int)) × (Int)) => (bif decide (s4.2 < (list_0.length : Int)) then
  (gidx list_0 s4.2).bind fun x9 =>
  (gapp s4.1 ([(x9.1, x9.2.1, x9.2.2)] : List (Int × (List Int) × Int))).bind fun xs21 =>
  Option.bind (loopM (fun (s27 : (List (Int × (List Int) × Int)) × (Int)) => Option.bind ((bif decide (0 < s27.2) then
  (gidx s27.1 s27.2).bind fun x32 =>
  (M.spec_hit (x32.1, x32.2.1, x32.2.2) kind_1 at_2).bind fun r42 =>
  (gidx s27.1 (w64 (s27.2 - 1))).bind fun x45 =>
  (M.spec_hit (x45.1, x45.2.1, x45.2.2) kind_1 at_2).bind fun r56 =>
  (M.spec_nearer (r42.1, r42.2) (r56.1, r56.2)).bind fun r60 =>
  some r60
 else
  some false)) fun o30 =>
  (bif o30 then
  (gidx s27.1 s27.2).bind fun x67 =>
  (gidx s27.1 (w64 (s27.2 - 1))).bind fun x80 =>
  (gidx s27.1 s27.2).bind fun x90 =>
  (gidx (s27.1.set s27.2.toNat (x80.1, x80.2.1, x80.2.2)) (w64 (s27.2 - 1))).bind fun x100 =>
  some (.inl (((s27.1.set s27.2.toNat (x80.1, x80.2.1, x80.2.2)).set (w64 (s27.2 - 1)).toNat (x67.1, x67.2.1, x67.2.2)), w64 (s27.2 - 1)))
 else
  some (.inr s27.1))) (xs21, w64 ((xs21.length : Int) - 1))) fun o26 =>
  some (.inl (o26, w64 (s4.2 + 1)))
 else
  some (.inr s4.1))) (([] : List (Int × (List Int) × Int)), 0)) fun o3 =>
  some o3

noncomputable def M.impl_nearestHits_reach (n_0 : Int × (List (Int × Int))) : Option Int :=
  (bif decide ((n_0.2.length : Int) < n_0.1) then
  some 1000000
 else
  (gidx n_0.2 0).bind fun x6 =>
  some x6.2)

noncomputable def M.spec_seek_reach (s_0 : (List (Int × Int × Int × Int)) × (List (Int × (List Int) × Int)) × Int × (List Int) × Int × (List (Int × Int)) × Int) : Option Int :=
  (bif decide ((s_0.2.2.2.2.2.1.length : Int) < s_0.2.2.2.2.1) then
  some 1000000
 else
  (gidx s_0.2.2.2.2.2.1 (w64 ((s_0.2.2.2.2.2.1.length : Int) - 1))).bind fun x8 =>
  some x8.2)

noncomputable def M.spec_seek_visit_F (rec : ((List (Int × Int × Int × Int)) × (List (Int × (List Int) × Int)) × Int × (List Int) × Int × (List (Int × Int)) × Int) → (Int) → Option (((List (Int × Int × Int × Int)) × (List (Int × (List Int) × Int)) × Int × (List Int) × Int × (List (Int × Int)) × Int))) (s_0 : (List (Int × Int × Int × Int)) × (List (Int × (List Int) × Int)) × Int × (List Int) × Int × (List (Int × Int)) × Int) (i_1 : Int) : Option (((List (Int × Int × Int × Int)) × (List (Int × (List Int) × Int)) × Int × (List Int) × Int × (List (Int × Int)) × Int)) :=
  (bif decide (i_1 < 0) then
  some (s_0.1, s_0.2.1, s_0.2.2.1, s_0.2.2.2.1, s_0.2.2.2.2.1, s_0.2.2.2.2.2.1, s_0.2.2.2.2.2.2)
 else
  (gidx s_0.1 i_1).bind fun x3 =>
  (M.spec_keyAt s_0.2.1 x3.1).bind fun r17 =>
  (gidx s_0.2.1 r17).bind fun x20 =>
  (M.spec_dist s_0.2.2.1 x20.2.1 s_0.2.2.2.1).bind fun r32 =>
  (M.spec_addHit s_0.2.2.2.2.2.1 (x3.1, r32) s_0.2.2.2.2.1).bind fun r41 =>
  (bif decide (r32 ≤ x3.2.1) then
  (rec (s_0.1, s_0.2.1, s_0.2.2.1, s_0.2.2.2.1, s_0.2.2.2.2.1, r41, w64 (s_0.2.2.2.2.2.2 + 1)) x3.2.2.1).bind fun r53 =>
  (M.spec_seek_reach (r53.1, r53.2.1, r53.2.2.1, r53.2.2.2.1, r53.2.2.2.2.1, r53.2.2.2.2.2.1, r53.2.2.2.2.2.2)).bind fun r65 =>
  (bif decide (x3.2.1 ≤ (w64 (r32 + r65))) then
  (rec (r53.1, r53.2.1, r53.2.2.1, r53.2.2.2.1, r53.2.2.2.2.1, r53.2.2.2.2.2.1, r53.2.2.2.2.2.2) x3.2.2.2).bind fun r72 =>
  some (r72.1, r72.2.1, r72.2.2.1, r72.2.2.2.1, r72.2.2.2.2.1, r72.2.2.2.2.2.1, r72.2.2.2.2.2.2)
 else
  some (r53.1, r53.2.1, r53.2.2.1, r53.2.2.2.1, r53.2.2.2.2.1, r53.2.2.2.2.2.1, r53.2.2.2.2.2.2))
 else
  (rec (s_0.1, s_0.2.1, s_0.2.2.1, s_0.2.2.2.1, s_0.2.2.2.2.1, r41, w64 (s_0.2.2.2.2.2.2 + 1)) x3.2.2.2).bind fun r87 =>
  (M.spec_seek_reach (r87.1, r87.2.1, r87.2.2.1, r87.2.2.2.1, r87.2.2.2.2.1, r87.2.2.2.2.2.1, r87.2.2.2.2.2.2)).bind fun r99 =>
  (bif decide ((w64 (r32 - r99)) ≤ x3.2.1) then
  (rec (r87.1, r87.2.1, r87.2.2.1, r87.2.2.2.1, r87.2.2.2.2.1, r87.2.2.2.2.2.1, r87.2.2.2.2.2.2) x3.2.2.1).bind fun r106 =>
  some (r106.1, r106.2.1, r106.2.2.1, r106.2.2.2.1, r106.2.2.2.2.1, r106.2.2.2.2.2.1, r106.2.2.2.2.2.2)
 else
  some (r87.1, r87.2.1, r87.2.2.1, r87.2.2.2.1, r87.2.2.2.2.1, r87.2.2.2.2.2.1, r87.2.2.2.2.2.2))))
noncomputable def M.spec_seek_visit : Nat → ((List (Int × Int × Int × Int)) × (List (Int × (List Int) × Int)) × Int × (List Int) × Int × (List (Int × Int)) × Int) → (Int) → Option (((List (Int × Int × Int × Int)) × (List (Int × (List Int) × Int)) × Int × (List Int) × Int × (List (Int × Int)) × Int))
  | 0 => fun _ _ => none
  | fuel + 1 => M.spec_seek_visit_F (M.spec_seek_visit fuel)

end Go.Vs

namespace Go.Vs

end Go.Vs

namespace Go.Vs

end Go.Vs

namespace Go.Vs

end Go.Vs

namespace Go.Vs

noncomputable def M.impl_growTree_F (rec : (List (Int × (List Int) × Int)) → (Int) → Option ((Tr (Int × (List Int) × Int)))) (list_0 : List (Int × (List Int) × Int)) (kind_1 : Int) : Option ((Tr (Int × (List Int) × Int))) :=
  (bif (list_0.length : Int) == 0 then
  some Tr.nil
 else
  (gidx list_0 0).bind fun x2 =>
  (gslice list_0 1 (list_0.length : Int)).bind fun xs15 =>
  (M.impl_sortByDistance xs15 kind_1 x2.2.1).bind fun r24 =>
  (gslice r24 0 (w64 ((w64 ((r24.length : Int) + 1)).tdiv 2))).bind fun xs33 =>
  (rec xs33 kind_1).bind fun r39 =>
  (gslice r24 (w64 ((w64 ((r24.length : Int) + 1)).tdiv 2)) (r24.length : Int)).bind fun xs43 =>
  (rec xs43 kind_1).bind fun r49 =>
  Option.bind ((bif decide (0 < (w64 ((w64 ((r24.length : Int) + 1)).tdiv 2))) then
  (gidx r24 (w64 ((w64 ((w64 ((r24.length : Int) + 1)).tdiv 2)) - 1))).bind fun x59 =>
  (M.impl_Distance kind_1 x2.2.1 x59.2.1).bind fun r69 =>
  some ((x2.1, x2.2.1, x2.2.2), r69, r39, r49)
 else
  some ((x2.1, x2.2.1, x2.2.2), 0, r39, r49))) fun o56 =>
  some (Tr.mk ((o56.1.1, o56.1.2.1, o56.1.2.2), o56.2.1, o56.2.2.1, o56.2.2.2)))
noncomputable def M.impl_growTree : Nat → (List (Int × (List Int) × Int)) → (Int) → Option ((Tr (Int × (List Int) × Int)))
  | 0 => fun _ _ => none
  | fuel + 1 => M.impl_growTree_F (M.impl_growTree fuel)

noncomputable def M.spec_grow_F (rec : (List (Int × Int × Int × Int)) → (List (Int × (List Int) × Int)) → (Int) → Option ((List (Int × Int × Int × Int)))) (nodes_0 : List (Int × Int × Int × Int)) (list_1 : List (Int × (List Int) × Int)) (kind_2 : Int) : Option ((List (Int × Int × Int × Int))) :=
  (bif (list_1.length : Int) == 0 then
  some nodes_0
 else
  (gidx list_1 0).bind fun x2 =>
  (gslice list_1 1 (list_1.length : Int)).bind fun xs15 =>
  (M.spec_byDist xs15 kind_2 x2.2.1).bind fun r24 =>
  (gapp nodes_0 ([(x2.1, 0, -1, -1)] : List (Int × Int × Int × Int))).bind fun xs37 =>
  Option.bind ((bif decide (0 < (w64 ((w64 ((r24.length : Int) + 1)).tdiv 2))) then
  (gidx r24 (w64 ((w64 ((w64 ((r24.length : Int) + 1)).tdiv 2)) - 1))).bind fun x44 =>
  (M.spec_dist kind_2 x44.2.1 x2.2.1).bind fun r55 =>
  (gidx xs37 (nodes_0.length : Int)).bind fun x59 =>
  (gidx (xs37.set (nodes_0.length : Int).toNat (x59.1, r55, x59.2.2.1, x59.2.2.2)) (nodes_0.length : Int)).bind fun x65 =>
  (gslice r24 0 (w64 ((w64 ((r24.length : Int) + 1)).tdiv 2))).bind fun xs71 =>
  (rec ((xs37.set (nodes_0.length : Int).toNat (x59.1, r55, x59.2.2.1, x59.2.2.2)).set (nodes_0.length : Int).toNat (x65.1, x65.2.1, ((xs37.set (nodes_0.length : Int).toNat (x59.1, r55, x59.2.2.1, x59.2.2.2)).length : Int), x65.2.2.2)) xs71 kind_2).bind fun r79 =>
  some r79
 else
  some xs37)) fun o42 =>
  Option.bind ((bif decide ((w64 ((w64 ((r24.length : Int) + 1)).tdiv 2)) < (r24.length : Int)) then
  (gidx o42 (nodes_0.length : Int)).bind fun x92 =>
  (gslice r24 (w64 ((w64 ((r24.length : Int) + 1)).tdiv 2)) (r24.length : Int)).bind fun xs98 =>
  (rec (o42.set (nodes_0.length : Int).toNat (x92.1, x92.2.1, x92.2.2.1, (o42.length : Int))) xs98 kind_2).bind fun r104 =>
  some r104
 else
  some o42)) fun o90 =>
  some o90)
noncomputable def M.spec_grow : Nat → (List (Int × Int × Int × Int)) → (List (Int × (List Int) × Int)) → (Int) → Option ((List (Int × Int × Int × Int)))
  | 0 => fun _ _ _ => none
  | fuel + 1 => M.spec_grow_F (M.spec_grow fuel)

noncomputable def M.impl_branch_turns (b_0 : Tr (Int × (List Int) × Int)) (dist_1 : Int) : Option (((Tr (Int × (List Int) × Int)) × Int) × ((Tr (Int × (List Int) × Int)) × Int)) :=
  (Tr.get b_0).bind fun x5 =>
  (bif decide (dist_1 ≤ x5.2.1) then
  (Tr.get b_0).bind fun x12 =>
  (Tr.get b_0).bind fun x21 =>
  (Tr.get b_0).bind fun x30 =>
  some ((x12.2.2.1, 0), (x21.2.2.2, w64 (x30.2.1 - dist_1)))
 else
  (Tr.get b_0).bind fun x38 =>
  (Tr.get b_0).bind fun x47 =>
  (Tr.get b_0).bind fun x56 =>
  some ((x38.2.2.2, 0), (x47.2.2.1, w64 (dist_1 - x56.2.1))))

noncomputable def M.impl_searchTree (top_0 : Tr (Int × (List Int) × Int)) (kind_1 : Int) (at_2 : List Int) (k_3 : Int) : Option ((Int × (List (Int × Int))) × Int) :=
  Option.bind (loopM (fun (s9 : ((Int) × (List (Int × Int))) × (Int) × (List ((Tr (Int × (List Int) × Int)) × Int))) => (bif decide (0 < (s9.2.2.length : Int)) then
  (gidx s9.2.2 (w64 ((s9.2.2.length : Int) - 1))).bind fun x16 =>
  (gslice s9.2.2 0 (w64 ((s9.2.2.length : Int) - 1))).bind fun xs28 =>
  Option.bind ((bif x16.1.isNil then
  some true
 else
  (M.impl_nearestHits_reach (s9.1.1, s9.1.2)).bind fun r40 =>
  some (decide (r40 < x16.2)))) fun o35 =>
  (bif o35 then
  some (.inl ((s9.1.1, s9.1.2), s9.2.1, xs28))
 else
  (Tr.get x16.1).bind fun x47 =>
  (M.impl_hitOf (x47.1.1, x47.1.2.1, x47.1.2.2) kind_1 at_2).bind fun r57 =>
  (M.impl_nearestHits_offer (s9.1.1, s9.1.2) (r57.1, r57.2)).bind fun r65 =>
  (M.impl_branch_turns x16.1 r57.2).bind fun r73 =>
  (gapp xs28 ([(r73.2.1, r73.2.2), (r73.1.1, r73.1.2)] : List ((Tr (Int × (List Int) × Int)) × Int))).bind fun xs89 =>
  some (.inl ((r65.1, r65.2), w64 (s9.2.1 + 1), xs89)))
 else
  some (.inr ((s9.1.1, s9.1.2), s9.2.1)))) ((k_3, []), 0, ([(top_0, 0)] : List ((Tr (Int × (List Int) × Int)) × Int)))) fun o8 =>
  some ((o8.1.1, o8.1.2), o8.2)

noncomputable def M.impl_TreeVisits (list_0 : List (Int × (List Int) × Int)) (kind_1 : Int) (at_2 : List Int) (k_3 : Int) : Option Int :=
  Option.bind ((M.impl_validTreeKind kind_1).bind fun r2 =>
  (bif !r2 then
  some true
 else
  (M.impl_validSearch list_0 kind_1 at_2 k_3).bind fun r7 =>
  some (!r7))) fun o1 =>
  (bif o1 then
  some (-1)
 else
  (M.impl_growTree 100 list_0 kind_1).bind fun r13 =>
  (M.impl_searchTree r13 kind_1 at_2 k_3).bind fun r18 =>
  some r18.2)

noncomputable def M.spec_search (list_0 : List (Int × (List Int) × Int)) (kind_1 : Int) (at_2 : List Int) (k_3 : Int) : Option (((List (Int × Int × Int × Int)) × (List (Int × (List Int) × Int)) × Int × (List Int) × Int × (List (Int × Int)) × Int)) :=
  (M.spec_grow 100 ([] : List (Int × Int × Int × Int)) list_0 kind_1).bind fun r3 =>
  Option.bind ((bif decide (0 < (list_0.length : Int)) then
  (M.spec_seek_visit 100 (r3, list_0, kind_1, at_2, k_3, ([] : List (Int × Int)), 0) 0).bind fun r15 =>
  some (r15.1, r15.2.1, r15.2.2.1, r15.2.2.2.1, r15.2.2.2.2.1, r15.2.2.2.2.2.1, r15.2.2.2.2.2.2)
 else
  some (r3, list_0, kind_1, at_2, k_3, [], 0))) fun o11 =>
  some (o11.1, o11.2.1, o11.2.2.1, o11.2.2.2.1, o11.2.2.2.2.1, o11.2.2.2.2.2.1, o11.2.2.2.2.2.2)

noncomputable def M.spec_TreeVisits (list_0 : List (Int × (List Int) × Int)) (kind_1 : Int) (at_2 : List Int) (k_3 : Int) : Option Int :=
  Option.bind ((M.spec_validQuery list_0 kind_1 at_2).bind fun r2 =>
  (bif !r2 then
  some true
 else
  (M.spec_isMetric kind_1).bind fun r7 =>
  (bif !r7 then
  some true
 else
  (M.spec_inRange k_3 1 16).bind fun r12 =>
  some (!r12)))) fun o1 =>
  (bif o1 then
  some (-1)
 else
  (M.spec_search list_0 kind_1 at_2 k_3).bind fun r18 =>
  some r18.2.2.2.2.2.2)

end Go.Vs

namespace Go.Vs

noncomputable def M.laws_FnExactTreeVisits (aList_0 : List (Int × (List Int) × Int)) (aKind_1 : Int) (aAt_2 : List Int) (aK_3 : Int) : Option Bool :=
  (bif decide (1048576 < (aAt_2.length : Int)) then
  some true
 else
  (M.laws_szItemS aList_0 1048576).bind fun r2 =>
  (bif decide (r2 < 0) then
  some true
 else
  (M.laws_toItemS aList_0).bind fun r7 =>
  (M.laws_toIntS aAt_2).bind fun r14 =>
  (M.spec_TreeVisits r7 aKind_1 r14 aK_3).bind fun r25 =>
  (M.laws_toItemS aList_0).bind fun r29 =>
  (M.laws_toIntS aAt_2).bind fun r36 =>
  (M.impl_TreeVisits r29 aKind_1 r36 aK_3).bind fun r43 =>
  (bif r43 != r25 then
  some false
 else
  (M.laws_toItemS aList_0).bind fun r48 =>
  (M.laws_eqItemS r29 r48).bind fun r59 =>
  (bif !r59 then
  some false
 else
  (M.laws_toIntS aAt_2).bind fun r64 =>
  (M.laws_eqIntS r36 r64).bind fun r75 =>
  (bif !r75 then
  some false
 else
  some true)))))

end Go.Vs

namespace Go.Vs

end Go.Vs

namespace Go.Vs

end Go.Vs

namespace Go.Vs

end Go.Vs

namespace Go.Vs

end Go.Vs

namespace Go.Vs

end Go.Vs

namespace Go.Vs

end Go.Vs

namespace Go.Vs

end Go.Vs

namespace Go.Vs

end Go.Vs

namespace Go.Vs

end Go.Vs

namespace Go.Vs

end Go.Vs

namespace Go.Vs

end Go.Vs

namespace Go.Vs

end Go.Vs

namespace Go.Vs

end Go.Vs

namespace Go.Vs

end Go.Vs

namespace Go.Vs

end Go.Vs

namespace Go.Vs

end Go.Vs

namespace Go.Vs

end Go.Vs

namespace Go.Vs

end Go.Vs

namespace Go.Vs

end Go.Vs
