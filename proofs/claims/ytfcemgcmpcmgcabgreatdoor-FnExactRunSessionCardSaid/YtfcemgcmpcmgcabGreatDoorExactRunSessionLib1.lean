/- What the functions compute. -/
import Derived.Lib.Split
import Derived.Lib.Atoi
import Derived.Lib.Join
import Derived.Lib.ItoaNum
import Derived.Test.YtfcemgcmpcmgcabGreatDoorExactRunSessionEng1
import Derived.Test.YtfcemgcmpcmgcabGreatDoorExactRunSessionEng2
set_option linter.unusedVariables false
set_option linter.unusedSimpArgs false
namespace Go.Vs
open Go

/-! ## What the library computes -/
noncomputable def M.itoa (n : Int) : Option ByteArray := if -9223372036854775808 ≤ n ∧ n ≤ 9223372036854775807 then some ⟨(Lib.itoa n).toArray⟩ else none
noncomputable def M.atoi (s : ByteArray) : Option (Int × Int) := if s.size ≤ 18 then some (match Lib.atoi s.data.toList with | some n => (n, 0) | none => (0, 1)) else none
noncomputable def M.ssplit (s sep : ByteArray) : Option (List ByteArray) := if s.size < 4294967281 ∧ 1 ≤ sep.size then some (Lib.splitB sep 0 (Lib.countB s sep) s) else none
noncomputable def M.sjoin (xs : List ByteArray) (sep : ByteArray) : Option ByteArray :=
  if xs.length ≤ 140737488355328 ∧ (Lib.join (xs.map (·.data.toList)) sep.data.toList).length ≤ 140737488355328 then some ⟨(Lib.join (xs.map (·.data.toList)) sep.data.toList).toArray⟩ else none

noncomputable def M.bldStr (l : List UInt8) (s : ByteArray) : Option (Int × List UInt8) := if l.length + s.size ≤ 2147483648 then some ((s.size : Int), l ++ s.data.toList) else none
noncomputable def M.bldByte (l : List UInt8) (c : UInt8) : Option (List UInt8) := if l.length + 1 ≤ 2147483648 then some (l ++ [c]) else none
end Go.Vs

namespace Go.Vs

noncomputable def M.spec_copyInts (list_0 : List Int) : Option ((List Int)) :=
  (gapp ([] : List Int) list_0).bind fun xs6 =>
  some xs6

noncomputable def M.impl_validCoords (coords_0 : List Int) : Option Bool :=
  Option.bind (loopM (fun (s2 : (Int)) => (bif decide (s2 < (coords_0.length : Int)) then
  (gidx coords_0 s2).bind fun x5 =>
  Option.bind ((bif decide (x5 < (-100)) then
  some true
 else
  some (decide (100 < x5)))) fun o11 =>
  (bif o11 then
  some (.inr (.inr false))
 else
  some (.inl (w64 (s2 + 1))))
 else
  some (.inr (.inl ())))) 0) (selim (fun t15 => some true)
   (fun t17 => some t17))

noncomputable def M.impl_ValidVector (v_0 : List Int) : Option Bool :=
  (bif (v_0.length : Int) == 4 then
  (M.impl_validCoords v_0).bind fun r2 =>
  some r2
 else
  some false)

noncomputable def M.spec_inRange (n_0 : Int) (low_1 : Int) (high_2 : Int) : Option Bool :=
  (bif decide (low_1 ≤ n_0) then
  some (decide (n_0 ≤ high_2))
 else
  some false)

noncomputable def M.spec_allIn (list_0 : List Int) (low_1 : Int) (high_2 : Int) : Option Bool :=
  Option.bind (loopM (fun (s2 : (Int)) => (bif decide (s2 < (list_0.length : Int)) then
  (gidx list_0 s2).bind fun x7 =>
  (M.spec_inRange x7 low_1 high_2).bind fun r12 =>
  (bif !r12 then
  some (.inr (.inr false))
 else
  some (.inl (w64 (s2 + 1))))
 else
  some (.inr (.inl ())))) 0) (selim (fun t17 => some true)
   (fun t19 => some t19))

noncomputable def M.spec_isVector (v_0 : List Int) : Option Bool :=
  (bif (v_0.length : Int) == 4 then
  (M.spec_allIn v_0 (-100) 100).bind fun r2 =>
  some r2
 else
  some false)

noncomputable def M.impl_distanceOf (kind_0 : Int) (gaps_1 : List Int) : Option Int :=
  Option.bind (loopM (fun (s8 : (Int) × (Int)) => (bif decide (s8.2 < 4) then
  Option.bind ((gidx gaps_1 s8.2).bind fun x13 =>
  (bif kind_0 == 1 then
  some (.inl (w64 (s8.1 + x13)))
 else
  (bif kind_0 == 2 then
  some (.inl (max s8.1 x13))
 else
  (bif kind_0 == 3 then
  some (.inl (w64 (s8.1 + (w64 (x13 * x13)))))
 else
  (bif kind_0 == 4 then
  some (.inl (w64 (s8.1 + (min x13 1))))
 else
  some (.inr (-1))))))) (selim (fun t19 => some (.inl (t19, w64 (s8.2 + 1))))
   (fun t21 => some (.inr (.inr t21))))
 else
  some (.inr (.inl s8.1)))) (0, 0)) (selim (fun t23 => some t23)
   (fun t25 => some t25))

noncomputable def M.impl_gapsOf (a_0 : List Int) (b_1 : List Int) : Option ((List Int)) :=
  Option.bind (loopM (fun (s32 : (List Int) × (Int)) => (bif decide (s32.2 < 4) then
  (gidx a_0 s32.2).bind fun x47 =>
  (gidx b_1 s32.2).bind fun x50 =>
  (gidx b_1 s32.2).bind fun x53 =>
  (gidx a_0 s32.2).bind fun x56 =>
  (gidx s32.1 s32.2).bind fun x60 =>
  some (.inl ((s32.1.set s32.2.toNat (max (w64 (x47 - x50)) (w64 (x53 - x56)))), w64 (s32.2 + 1)))
 else
  some (.inr s32.1))) ((List.replicate 4 0), 0)) fun o31 =>
  some o31

noncomputable def M.impl_Distance (kind_0 : Int) (a_1 : List Int) (b_2 : List Int) : Option Int :=
  Option.bind ((M.impl_ValidVector a_1).bind fun r2 =>
  (bif !r2 then
  some true
 else
  (M.impl_ValidVector b_2).bind fun r7 =>
  some (!r7))) fun o1 =>
  (bif o1 then
  some (-1)
 else
  (garr 4 a_1).bind fun xs15 =>
  (garr 4 b_2).bind fun xs22 =>
  (M.impl_gapsOf (List.take 4 a_1) (List.take 4 b_2)).bind fun r29 =>
  (M.impl_distanceOf kind_0 r29).bind fun r33 =>
  some r33)

noncomputable def M.spec_validKind (kind_0 : Int) : Option Bool :=
  (M.spec_inRange kind_0 1 4).bind fun r1 =>
  some r1

noncomputable def M.spec_size (n_0 : Int) : Option Int :=
  some (max n_0 (w64 (0 - n_0)))

noncomputable def M.spec_toInt (b_0 : Bool) : Option Int :=
  (bif b_0 then
  some 1
 else
  some 0)

noncomputable def M.spec_dist (kind_0 : Int) (a_1 : List Int) (b_2 : List Int) : Option Int :=
  Option.bind (loopM (fun (s2 : (Int) × (Int)) => (bif decide (s2.2 < (a_1.length : Int)) then
  Option.bind ((gidx a_1 s2.2).bind fun x9 =>
  (gidx b_2 s2.2).bind fun x14 =>
  (M.spec_size (w64 (x9 - x14))).bind fun r20 =>
  (bif kind_0 == 1 then
  some (w64 (s2.1 + r20))
 else
  (bif kind_0 == 2 then
  some (max s2.1 r20)
 else
  (bif kind_0 == 3 then
  some (w64 (s2.1 + (w64 (r20 * r20))))
 else
  (M.spec_toInt (decide (0 < r20))).bind fun r27 =>
  some (w64 (s2.1 + r27)))))) fun o8 =>
  some (.inl (o8, w64 (s2.2 + 1)))
 else
  some (.inr s2.1))) (0, 0)) fun o1 =>
  some o1

noncomputable def M.spec_validItem (x_0 : Int × (List Int) × Int) : Option Bool :=
  (M.spec_inRange x_0.1 1 99).bind fun r7 =>
  (bif r7 then
  (M.spec_isVector x_0.2.1).bind fun r13 =>
  (bif r13 then
  (M.spec_inRange x_0.2.2 0 15).bind fun r19 =>
  some r19
 else
  some false)
 else
  some false)

noncomputable def M.spec_validStore (list_0 : List (Int × (List Int) × Int)) : Option Bool :=
  Option.bind (loopM (fun (s2 : (Int)) => (bif decide (s2 < (list_0.length : Int)) then
  Option.bind ((gidx list_0 s2).bind fun x8 =>
  (M.spec_validItem (x8.1, x8.2.1, x8.2.2)).bind fun r19 =>
  (bif !r19 then
  some true
 else
  (bif decide (0 < s2) then
  (gidx list_0 s2).bind fun x24 =>
  (gidx list_0 (w64 (s2 - 1))).bind fun x29 =>
  some (decide (x24.1 ≤ x29.1))
 else
  some false))) fun o7 =>
  (bif o7 then
  some (.inr (.inr false))
 else
  some (.inl (w64 (s2 + 1))))
 else
  some (.inr (.inl ())))) 0) (selim (fun t39 => some (decide ((list_0.length : Int) ≤ 16)))
   (fun t42 => some t42))

noncomputable def M.spec_copyItem (x_0 : Int × (List Int) × Int) : Option ((Int × (List Int) × Int)) :=
  (M.spec_copyInts x_0.2.1).bind fun r14 =>
  some (x_0.1, r14, x_0.2.2)

noncomputable def M.spec_put (list_0 : List (Int × (List Int) × Int)) (x_1 : Int × (List Int) × Int) : Option ((List (Int × (List Int) × Int))) :=
  Option.bind (loopM (fun (s14 : (List (Int × (List Int) × Int)) × (Int)) => (bif decide (s14.2 < (list_0.length : Int)) then
  Option.bind ((gidx list_0 s14.2).bind fun x26 =>
  (bif decide (x26.1 < x_1.1) then
  (gidx list_0 s14.2).bind fun x33 =>
  (M.spec_copyItem (x33.1, x33.2.1, x33.2.2)).bind fun r44 =>
  (gapp s14.1 ([(r44.1, r44.2.1, r44.2.2)] : List (Int × (List Int) × Int))).bind fun xs60 =>
  some xs60
 else
  some s14.1)) fun o25 =>
  some (.inl (o25, w64 (s14.2 + 1)))
 else
  some (.inr s14.1))) (([] : List (Int × (List Int) × Int)), 0)) fun o13 =>
  (M.spec_copyItem (x_1.1, x_1.2.1, x_1.2.2)).bind fun r87 =>
  (gapp o13 ([(r87.1, r87.2.1, r87.2.2)] : List (Int × (List Int) × Int))).bind fun xs103 =>
  Option.bind (loopM (fun (s115 : (List (Int × (List Int) × Int)) × (Int)) => (bif decide (s115.2 < (list_0.length : Int)) then
  Option.bind ((gidx list_0 s115.2).bind fun x127 =>
  (bif decide (x_1.1 < x127.1) then
  (gidx list_0 s115.2).bind fun x134 =>
  (M.spec_copyItem (x134.1, x134.2.1, x134.2.2)).bind fun r145 =>
  (gapp s115.1 ([(r145.1, r145.2.1, r145.2.2)] : List (Int × (List Int) × Int))).bind fun xs161 =>
  some xs161
 else
  some s115.1)) fun o126 =>
  some (.inl (o126, w64 (s115.2 + 1)))
 else
  some (.inr s115.1))) (xs103, 0)) fun o114 =>
  some o114

noncomputable def M.spec_PutItem (list_0 : List (Int × (List Int) × Int)) (x_1 : Int × (List Int) × Int) : Option ((List (Int × (List Int) × Int)) × Bool) :=
  Option.bind ((M.spec_validStore list_0).bind fun r8 =>
  (bif !r8 then
  some true
 else
  (M.spec_validItem (x_1.1, x_1.2.1, x_1.2.2)).bind fun r14 =>
  some (!r14))) fun o7 =>
  (bif o7 then
  some ([], false)
 else
  (M.spec_put list_0 (x_1.1, x_1.2.1, x_1.2.2)).bind fun r24 =>
  (M.spec_validStore r24).bind fun r35 =>
  (bif !r35 then
  some ([], false)
 else
  some (r24, true)))

noncomputable def M.impl_validKey (key_0 : Int) : Option Bool :=
  (bif decide (1 ≤ key_0) then
  some (decide (key_0 ≤ 99))
 else
  some false)

noncomputable def M.impl_validTags (tags_0 : Int) : Option Bool :=
  (bif decide (0 ≤ tags_0) then
  some (decide (tags_0 ≤ 15))
 else
  some false)

noncomputable def M.impl_validItem (x_0 : Int × (List Int) × Int) : Option Bool :=
  (M.impl_validKey x_0.1).bind fun r4 =>
  (bif r4 then
  (M.impl_ValidVector x_0.2.1).bind fun r10 =>
  (bif r10 then
  (M.impl_validTags x_0.2.2).bind fun r16 =>
  some r16
 else
  some false)
 else
  some false)

noncomputable def M.impl_ValidStore (list_0 : List (Int × (List Int) × Int)) : Option Bool :=
  (bif decide (16 < (list_0.length : Int)) then
  some false
 else
  Option.bind (loopM (fun (s3 : (Int) × (Int)) => (bif decide (s3.2 < (list_0.length : Int)) then
  (gidx list_0 s3.2).bind fun x8 =>
  Option.bind ((M.impl_validItem (x8.1, x8.2.1, x8.2.2)).bind fun r30 =>
  (bif !r30 then
  some true
 else
  some (decide (x8.1 ≤ s3.1)))) fun o29 =>
  (bif o29 then
  some (.inr (.inr false))
 else
  some (.inl (x8.1, w64 (s3.2 + 1))))
 else
  some (.inr (.inl ())))) (0, 0)) (selim (fun t41 => some true)
   (fun t43 => some t43)))

noncomputable def M.cmp_isNaN_int (x_0 : Int) : Option Bool :=
  some (x_0 != x_0)

noncomputable def M.cmp_Compare_int (x_0 : Int) (y_1 : Int) : Option Int :=
  (M.cmp_isNaN_int x_0).bind fun r1 =>
  (M.cmp_isNaN_int y_1).bind fun r5 =>
  (bif r1 then
  (bif r5 then
  some 0
 else
  some (-1))
 else
  (bif r5 then
  some 1
 else
  (bif decide (x_0 < y_1) then
  some (-1)
 else
  (bif decide (y_1 < x_0) then
  some 1
 else
  some 0))))

noncomputable def M.impl_placeOf_1 (x_0 : Int × (List Int) × Int) (key_1 : Int) : Option Int :=
  (M.cmp_Compare_int x_0.1 key_1).bind fun r7 =>
  some r7

end Go.Vs

namespace Go.Vs

noncomputable def M.spec_keyAt (list_0 : List (Int × (List Int) × Int)) (key_1 : Int) : Option Int :=
  Option.bind (loopM (fun (s2 : (Int)) => (bif decide (s2 < (list_0.length : Int)) then
  (gidx list_0 s2).bind fun x7 =>
  (bif x7.1 == key_1 then
  some (.inr (.inr s2))
 else
  some (.inl (w64 (s2 + 1))))
 else
  some (.inr (.inl ())))) 0) (selim (fun t13 => some (-1))
   (fun t15 => some t15))

noncomputable def M.spec_DropItem (list_0 : List (Int × (List Int) × Int)) (key_1 : Int) : Option ((List (Int × (List Int) × Int)) × Bool) :=
  Option.bind ((M.spec_validStore list_0).bind fun r2 =>
  (bif !r2 then
  some true
 else
  (M.spec_keyAt list_0 key_1).bind fun r7 =>
  some (decide (r7 < 0)))) fun o1 =>
  (bif o1 then
  some ([], false)
 else
  Option.bind (loopM (fun (s20 : (List (Int × (List Int) × Int)) × (Int)) => (bif decide (s20.2 < (list_0.length : Int)) then
  Option.bind ((gidx list_0 s20.2).bind fun x29 =>
  (bif x29.1 != key_1 then
  (gidx list_0 s20.2).bind fun x35 =>
  (M.spec_copyItem (x35.1, x35.2.1, x35.2.2)).bind fun r46 =>
  (gapp s20.1 ([(r46.1, r46.2.1, r46.2.2)] : List (Int × (List Int) × Int))).bind fun xs60 =>
  some xs60
 else
  some s20.1)) fun o28 =>
  some (.inl (o28, w64 (s20.2 + 1)))
 else
  some (.inr s20.1))) (([] : List (Int × (List Int) × Int)), 0)) fun o19 =>
  some (o19, true))

end Go.Vs

namespace Go.Vs

end Go.Vs

namespace Go.Vs

end Go.Vs

namespace Go.Vs

end Go.Vs

namespace Go.Vs

noncomputable def M.slices_BinarySearchFunc_impl_Item_impl_Item_int__impl_placeOf_1 (x_0 : List (Int × (List Int) × Int)) (target_1 : Int) : Option (Int × Bool) :=
  Option.bind (loopM (fun (s2 : (Int) × (Int)) => (bif decide (s2.1 < s2.2) then
  (gidx x_0 (wk .i64 (gshr .u64 (wk .u64 (w64 (s2.1 + s2.2))) 1))).bind fun x5 =>
  (M.impl_placeOf_1 (x5.1, x5.2.1, x5.2.2) target_1).bind fun r15 =>
  (bif decide (r15 < 0) then
  some (.inl (w64 ((wk .i64 (gshr .u64 (wk .u64 (w64 (s2.1 + s2.2))) 1)) + 1), s2.2))
 else
  some (.inl (s2.1, wk .i64 (gshr .u64 (wk .u64 (w64 (s2.1 + s2.2))) 1))))
 else
  some (.inr s2.1))) (0, (x_0.length : Int))) fun o1 =>
  (bif decide (o1 < (x_0.length : Int)) then
  (gidx x_0 o1).bind fun x22 =>
  (M.impl_placeOf_1 (x22.1, x22.2.1, x22.2.2) target_1).bind fun r32 =>
  some (o1, r32 == 0)
 else
  some (o1, false))

noncomputable def M.impl_placeOf (list_0 : List (Int × (List Int) × Int)) (key_1 : Int) : Option (Int × Bool) :=
  (M.slices_BinarySearchFunc_impl_Item_impl_Item_int__impl_placeOf_1 list_0 key_1).bind fun r1 =>
  some (r1.1, r1.2)

noncomputable def M.slices_Clone_int_int (s_0 : List Int) : Option ((List Int)) :=
  (gapp ([] : List Int) s_0).bind fun xs4 =>
  some xs4

noncomputable def M.impl_copyItem (x_0 : Int × (List Int) × Int) : Option ((Int × (List Int) × Int)) :=
  (M.slices_Clone_int_int x_0.2.1).bind fun r7 =>
  some (x_0.1, r7, x_0.2.2)

noncomputable def M.impl_copyItems (list_0 : List (Int × (List Int) × Int)) : Option ((List (Int × (List Int) × Int))) :=
  (gmake (list_0.length : Int) ((0, [], 0) : Int × (List Int) × Int)).bind fun xs1 =>
  Option.bind (loopM (fun (s8 : (List (Int × (List Int) × Int)) × (Int)) => (bif decide (s8.2 < (list_0.length : Int)) then
  (gidx list_0 s8.2).bind fun x13 =>
  (M.impl_copyItem (x13.1, x13.2.1, x13.2.2)).bind fun r27 =>
  (gidx s8.1 s8.2).bind fun x33 =>
  some (.inl ((s8.1.set s8.2.toNat (r27.1, r27.2.1, r27.2.2)), w64 (s8.2 + 1)))
 else
  some (.inr s8.1))) (xs1, 0)) fun o7 =>
  some o7

noncomputable def M.impl_validKind (kind_0 : Int) : Option Bool :=
  (bif decide (1 ≤ kind_0) then
  some (decide (kind_0 ≤ 4))
 else
  some false)

noncomputable def M.impl_validCount (k_0 : Int) : Option Bool :=
  (bif decide (1 ≤ k_0) then
  some (decide (k_0 ≤ 16))
 else
  some false)

noncomputable def M.impl_validSearch (list_0 : List (Int × (List Int) × Int)) (kind_1 : Int) (at_2 : List Int) (k_3 : Int) : Option Bool :=
  (M.impl_ValidStore list_0).bind fun r1 =>
  (bif r1 then
  (M.impl_validKind kind_1).bind fun r6 =>
  (bif r6 then
  (M.impl_ValidVector at_2).bind fun r11 =>
  (bif r11 then
  (M.impl_validCount k_3).bind fun r16 =>
  some r16
 else
  some false)
 else
  some false)
 else
  some false)

noncomputable def M.impl_hitHeap_Push__impl_Hit (h_0 : List (Int × Int)) (x_1 : Int × Int) : Option ((List (Int × Int))) :=
  (gapp h_0 ([(x_1.1, x_1.2)] : List (Int × Int))).bind fun xs3 =>
  some xs3

noncomputable def M.impl_hitHeap_Len (h_0 : List (Int × Int)) : Option Int :=
  some (h_0.length : Int)

noncomputable def M.cmp_Or_int (vals_0 : List Int) : Option Int :=
  Option.bind (loopM (fun (s2 : (Int)) => (bif decide (s2 < (vals_0.length : Int)) then
  (gidx vals_0 s2).bind fun x5 =>
  (bif x5 != 0 then
  some (.inr (.inr x5))
 else
  some (.inl (w64 (s2 + 1))))
 else
  some (.inr (.inl ())))) 0) (selim (fun t12 => some 0)
   (fun t14 => some t14))

noncomputable def M.impl_compareHits (a_0 : Int × Int) (b_1 : Int × Int) : Option Int :=
  (M.cmp_Compare_int a_0.2 b_1.2).bind fun r7 =>
  (M.cmp_Compare_int a_0.1 b_1.1).bind fun r13 =>
  (M.cmp_Or_int ([r7, r13] : List Int)).bind fun r21 =>
  some r21

noncomputable def M.impl_hitHeap_Less (h_0 : List (Int × Int)) (i_1 : Int) (j_2 : Int) : Option Bool :=
  (gidx h_0 i_1).bind fun x1 =>
  (gidx h_0 j_2).bind fun x8 =>
  (M.impl_compareHits (x1.1, x1.2) (x8.1, x8.2)).bind fun r16 =>
  some (decide (0 < r16))

noncomputable def M.impl_hitHeap_Swap (h_0 : List (Int × Int)) (i_1 : Int) (j_2 : Int) : Option ((List (Int × Int))) :=
  (gidx h_0 j_2).bind fun x1 =>
  (gidx h_0 i_1).bind fun x8 =>
  (gidx h_0 i_1).bind fun x15 =>
  (gidx (h_0.set i_1.toNat (x1.1, x1.2)) j_2).bind fun x21 =>
  some ((h_0.set i_1.toNat (x1.1, x1.2)).set j_2.toNat (x8.1, x8.2))

noncomputable def M.container_heap_up__impl_hitHeap (h_0 : List (Int × Int)) (j_1 : Int) : Option ((List (Int × Int))) :=
  Option.bind (loopM (fun (s2 : (List (Int × Int)) × (Int)) => Option.bind ((bif (w64 ((w64 (s2.2 - 1)).tdiv 2)) == s2.2 then
  some true
 else
  (M.impl_hitHeap_Less s2.1 s2.2 (w64 ((w64 (s2.2 - 1)).tdiv 2))).bind fun r8 =>
  some (!r8))) fun o6 =>
  (bif o6 then
  some (.inr s2.1)
 else
  (M.impl_hitHeap_Swap s2.1 (w64 ((w64 (s2.2 - 1)).tdiv 2)) s2.2).bind fun r14 =>
  some (.inl (r14, w64 ((w64 (s2.2 - 1)).tdiv 2))))) (h_0, j_1)) fun o1 =>
  some o1

noncomputable def M.container_heap_Push__impl_hitHeap__impl_Hit (h_0 : List (Int × Int)) (x_1 : Int × Int) : Option ((List (Int × Int))) :=
  (M.impl_hitHeap_Push__impl_Hit h_0 (x_1.1, x_1.2)).bind fun r1 =>
  (M.impl_hitHeap_Len r1).bind fun r7 =>
  (M.container_heap_up__impl_hitHeap r1 (w64 (r7 - 1))).bind fun r11 =>
  some r11

noncomputable def M.container_heap_down__impl_hitHeap (h_0 : List (Int × Int)) (i0_1 : Int) (n_2 : Int) : Option (Bool × (List (Int × Int))) :=
  Option.bind (loopM (fun (s2 : (List (Int × Int)) × (Int)) => Option.bind ((bif decide (n_2 ≤ (w64 ((w64 (2 * s2.2)) + 1))) then
  some true
 else
  some (decide ((w64 ((w64 (2 * s2.2)) + 1)) < 0)))) fun o6 =>
  (bif o6 then
  some (.inr (s2.1, s2.2))
 else
  Option.bind ((bif decide ((w64 ((w64 ((w64 (2 * s2.2)) + 1)) + 1)) < n_2) then
  (M.impl_hitHeap_Less s2.1 (w64 ((w64 ((w64 (2 * s2.2)) + 1)) + 1)) (w64 ((w64 (2 * s2.2)) + 1))).bind fun r12 =>
  some r12
 else
  some false)) fun o10 =>
  Option.bind ((bif o10 then
  some (w64 ((w64 ((w64 (2 * s2.2)) + 1)) + 1))
 else
  some (w64 ((w64 (2 * s2.2)) + 1)))) fun o17 =>
  (M.impl_hitHeap_Less s2.1 o17 s2.2).bind fun r20 =>
  (bif !r20 then
  some (.inr (s2.1, s2.2))
 else
  (M.impl_hitHeap_Swap s2.1 s2.2 o17).bind fun r25 =>
  some (.inl (r25, o17))))) (h_0, i0_1)) fun o1 =>
  some (decide (i0_1 < o1.2), o1.1)

noncomputable def M.impl_hitHeap_Pop (h_0 : List (Int × Int)) : Option (((Int) × (Int)) × (List (Int × Int))) :=
  (gidx h_0 (w64 ((h_0.length : Int) - 1))).bind fun x3 =>
  (gslice h_0 0 (w64 ((h_0.length : Int) - 1))).bind fun xs14 =>
  some ((x3.1, x3.2), xs14)

noncomputable def M.container_heap_Pop__impl_hitHeap (h_0 : List (Int × Int)) : Option (((Int) × (Int)) × (List (Int × Int))) :=
  (M.impl_hitHeap_Len h_0).bind fun r1 =>
  (M.impl_hitHeap_Swap h_0 0 (w64 (r1 - 1))).bind fun r5 =>
  (M.container_heap_down__impl_hitHeap r5 0 (w64 (r1 - 1))).bind fun r10 =>
  (M.impl_hitHeap_Pop r10.2).bind fun r18 =>
  some ((r18.1.1, r18.1.2), r18.2)

noncomputable def M.impl_nearestHits_offer (n_0 : Int × (List (Int × Int))) (h_1 : Int × Int) : Option ((Int × (List (Int × Int)))) :=
  (M.container_heap_Push__impl_hitHeap__impl_Hit n_0.2 (h_1.1, h_1.2)).bind fun r5 =>
  (bif decide (n_0.1 < (r5.length : Int)) then
  (M.container_heap_Pop__impl_hitHeap r5).bind fun r15 =>
  some (n_0.1, r15.2)
 else
  some (n_0.1, r5))

noncomputable def M.spec_nearer (a_0 : Int × Int) (b_1 : Int × Int) : Option Bool :=
  (bif decide (a_0.2 < b_1.2) then
  some true
 else
  (bif a_0.2 == b_1.2 then
  some (decide (a_0.1 < b_1.1))
 else
  some false))

noncomputable def M.spec_addHit (list_0 : List (Int × Int)) (h_1 : Int × Int) (k_2 : Int) : Option ((List (Int × Int))) :=
  (gapp ([] : List (Int × Int)) list_0).bind fun xs4 =>
  (gapp xs4 ([(h_1.1, h_1.2)] : List (Int × Int))).bind fun xs11 =>
  Option.bind (loopM (fun (s17 : (List (Int × Int)) × (Int)) => Option.bind ((bif decide (0 < s17.2) then
  (gidx s17.1 s17.2).bind fun x22 =>
  (gidx s17.1 (w64 (s17.2 - 1))).bind fun x29 =>
  (M.spec_nearer (x22.1, x22.2) (x29.1, x29.2)).bind fun r37 =>
  some r37
 else
  some false)) fun o20 =>
  (bif o20 then
  (gidx s17.1 s17.2).bind fun x44 =>
  (gidx s17.1 (w64 (s17.2 - 1))).bind fun x54 =>
  (gidx s17.1 s17.2).bind fun x61 =>
  (gidx (s17.1.set s17.2.toNat (x54.1, x54.2)) (w64 (s17.2 - 1))).bind fun x68 =>
  some (.inl (((s17.1.set s17.2.toNat (x54.1, x54.2)).set (w64 (s17.2 - 1)).toNat (x44.1, x44.2)), w64 (s17.2 - 1)))
 else
  some (.inr s17.1))) (xs11, w64 ((xs11.length : Int) - 1))) fun o16 =>
  (gslice o16 0 (min k_2 (o16.length : Int))).bind fun xs76 =>
  some xs76

noncomputable def M.spec_nearest (list_0 : List (Int × (List Int) × Int)) (kind_1 : Int) (at_2 : List Int) (k_3 : Int) : Option ((List (Int × Int))) :=
  Option.bind (loopM (fun (s4 : (List (Int × Int)) × (Int)) => (bif decide (s4.2 < (list_0.length : Int)) then
  (gidx list_0 s4.2).bind fun x9 =>
  (gidx list_0 s4.2).bind fun x15 =>
  (M.spec_dist kind_1 x15.2.1 at_2).bind fun r25 =>
  (M.spec_addHit s4.1 (x9.1, r25) k_3).bind fun r31 =>
  some (.inl (r31, w64 (s4.2 + 1)))
 else
  some (.inr s4.1))) (([] : List (Int × Int)), 0)) fun o3 =>
  some o3

noncomputable def M.impl_ClosestPair (list_0 : List (Int × (List Int) × Int)) (kind_1 : Int) : Option (Int × Int × Bool) :=
  Option.bind ((M.impl_ValidStore list_0).bind fun r2 =>
  (bif !r2 then
  some true
 else
  (M.impl_validKind kind_1).bind fun r7 =>
  (bif !r7 then
  some true
 else
  some (decide ((list_0.length : Int) < 2))))) fun o1 =>
  (bif o1 then
  some (0, 0, false)
 else
  Option.bind (loopM (fun (s15 : (Int) × (Int) × (Int) × (Int)) => (bif decide (s15.2.2.2 < (list_0.length : Int)) then
  (gidx list_0 s15.2.2.2).bind fun x18 =>
  (gslice list_0 (w64 (s15.2.2.2 + 1)) (list_0.length : Int)).bind fun xs31 =>
  Option.bind (loopM (fun (s38 : (Int) × (Int) × (Int) × (Int)) => (bif decide (s38.2.2.2 < (xs31.length : Int)) then
  Option.bind ((gidx xs31 s38.2.2.2).bind fun x42 =>
  (M.impl_Distance kind_1 x18.2.1 x42.2.1).bind fun r57 =>
  (bif decide (r57 < s38.2.2.1) then
  some (x18.1, x42.1, r57)
 else
  some (s38.1, s38.2.1, s38.2.2.1))) fun o41 =>
  some (.inl (o41.1, o41.2.1, o41.2.2, w64 (s38.2.2.2 + 1)))
 else
  some (.inr (s38.1, s38.2.1, s38.2.2.1)))) (s15.1, s15.2.1, s15.2.2.1, 0)) fun o37 =>
  some (.inl (o37.1, o37.2.1, o37.2.2, w64 (s15.2.2.2 + 1)))
 else
  some (.inr (s15.1, s15.2.1)))) (0, 0, 1000000, 0)) fun o14 =>
  some (o14.1, o14.2, true))

noncomputable def M.spec_ClosestPair (list_0 : List (Int × (List Int) × Int)) (kind_1 : Int) : Option (Int × Int × Bool) :=
  Option.bind ((M.spec_validStore list_0).bind fun r2 =>
  (bif !r2 then
  some true
 else
  (M.spec_validKind kind_1).bind fun r7 =>
  (bif !r7 then
  some true
 else
  some (decide ((list_0.length : Int) < 2))))) fun o1 =>
  (bif o1 then
  some (0, 0, false)
 else
  Option.bind (loopM (fun (s15 : (Int) × (Int) × (Int)) => (bif decide (s15.2.2 < (list_0.length : Int)) then
  Option.bind (loopM (fun (s19 : (Int) × (Int) × (Int)) => (bif decide (s19.2.2 < (list_0.length : Int)) then
  Option.bind ((gidx list_0 s15.2.2).bind fun x23 =>
  (gidx list_0 s19.2.2).bind fun x33 =>
  (M.spec_dist kind_1 x23.2.1 x33.2.1).bind fun r43 =>
  (gidx list_0 s19.1).bind fun x46 =>
  (gidx list_0 s19.2.1).bind fun x56 =>
  (M.spec_dist kind_1 x46.2.1 x56.2.1).bind fun r67 =>
  (bif decide (r43 < r67) then
  some (s15.2.2, s19.2.2)
 else
  some (s19.1, s19.2.1))) fun o22 =>
  some (.inl (o22.1, o22.2, w64 (s19.2.2 + 1)))
 else
  some (.inr (s19.1, s19.2.1)))) (s15.1, s15.2.1, w64 (s15.2.2 + 1))) fun o18 =>
  some (.inl (o18.1, o18.2, w64 (s15.2.2 + 1)))
 else
  some (.inr (s15.1, s15.2.1)))) (0, 1, 0)) fun o14 =>
  (gidx list_0 o14.1).bind fun x75 =>
  (gidx list_0 o14.2).bind fun x81 =>
  some (x75.1, x81.1, true))

end Go.Vs

namespace Go.Vs

noncomputable def M.slices_Insert_impl_Item_impl_Item (s_0 : List (Int × (List Int) × Int)) (i_1 : Int) (v_2 : List (Int × (List Int) × Int)) : Option ((List (Int × (List Int) × Int))) :=
  (gslice s_0 i_1 (s_0.length : Int)).bind fun xs1 =>
  (bif (v_2.length : Int) == 0 then
  some s_0
 else
  (bif i_1 == (s_0.length : Int) then
  (gapp s_0 v_2).bind fun xs9 =>
  some xs9
 else
  (bif decide ((s_0.length : Int) < (w64 ((s_0.length : Int) + (v_2.length : Int)))) then
  (gslice s_0 0 i_1).bind fun xs15 =>
  (gappz xs15 (w64 ((w64 ((s_0.length : Int) + (v_2.length : Int))) - i_1)) ((0, [], 0) : Int × (List Int) × Int)).bind fun xs21 =>
  (gslice xs21 i_1 (xs21.length : Int)).bind fun xs26 =>
  (gslice (gcopyAt xs21 (i_1).toNat xs26.length v_2) (w64 (i_1 + (v_2.length : Int))) ((gcopyAt xs21 (i_1).toNat xs26.length v_2).length : Int)).bind fun xs33 =>
  (gslice s_0 i_1 (s_0.length : Int)).bind fun xs39 =>
  some (gcopyAt (gcopyAt xs21 (i_1).toNat xs26.length v_2) (w64 (i_1 + (v_2.length : Int))).toNat xs33.length xs39)
 else
  none)))

noncomputable def M.impl_PutItem (list_0 : List (Int × (List Int) × Int)) (x_1 : Int × (List Int) × Int) : Option ((List (Int × (List Int) × Int)) × Bool) :=
  Option.bind ((M.impl_ValidStore list_0).bind fun r4 =>
  (bif !r4 then
  some true
 else
  (M.impl_validItem (x_1.1, x_1.2.1, x_1.2.2)).bind fun r10 =>
  some (!r10))) fun o3 =>
  (bif o3 then
  some ([], false)
 else
  (M.impl_placeOf list_0 x_1.1).bind fun r17 =>
  (bif r17.2 then
  (M.impl_copyItems list_0).bind fun r22 =>
  (M.impl_copyItem (x_1.1, x_1.2.1, x_1.2.2)).bind fun r30 =>
  (gidx r22 r17.1).bind fun x36 =>
  some ((r22.set r17.1.toNat (r30.1, r30.2.1, r30.2.2)), true)
 else
  (bif (list_0.length : Int) == 16 then
  some ([], false)
 else
  (M.impl_copyItems list_0).bind fun r48 =>
  (M.impl_copyItem (x_1.1, x_1.2.1, x_1.2.2)).bind fun r55 =>
  (M.slices_Insert_impl_Item_impl_Item r48 r17.1 ([(r55.1, r55.2.1, r55.2.2)] : List (Int × (List Int) × Int))).bind fun r64 =>
  some (r64, true))))

noncomputable def M.slices_Delete_impl_Item_impl_Item (s_0 : List (Int × (List Int) × Int)) (i_1 : Int) (j_2 : Int) : Option ((List (Int × (List Int) × Int))) :=
  (gthree i_1 j_2 (s_0.length : Int) s_0.length).bind fun o1 =>
  (bif i_1 == j_2 then
  some s_0
 else
  (gslice s_0 0 i_1).bind fun xs4 =>
  (gslice s_0 j_2 (s_0.length : Int)).bind fun xs10 =>
  (gapp xs4 xs10).bind fun xs17 =>
  some xs17)

noncomputable def M.impl_DropItem (list_0 : List (Int × (List Int) × Int)) (key_1 : Int) : Option ((List (Int × (List Int) × Int)) × Bool) :=
  (M.impl_ValidStore list_0).bind fun r1 =>
  (bif !r1 then
  some ([], false)
 else
  (M.impl_placeOf list_0 key_1).bind fun r6 =>
  (bif !r6.2 then
  some ([], false)
 else
  (M.impl_copyItems list_0).bind fun r11 =>
  (M.slices_Delete_impl_Item_impl_Item r11 r6.1 (w64 (r6.1 + 1))).bind fun r18 =>
  some (r18, true)))

end Go.Vs

namespace Go.Vs

end Go.Vs

namespace Go.Vs

noncomputable def M.slices_Values_impl_hitHeap_impl_Hit (s_0 : List (Int × Int)) : Option Unit :=
  some ()

noncomputable def M.slices_AppendSeq_impl_Hit_impl_Hit__slices_Values_impl_hitHeap_impl_Hit_1 (seq_1_0 : List (Int × Int)) : Option (List (Int × Int)) :=
  M.coll seq_1_0

noncomputable def M.slices_Collect_impl_Hit__slices_Values_impl_hitHeap_impl_Hit_1 (seq_0_0 : List (Int × Int)) : Option ((List (Int × Int))) :=
  (M.slices_AppendSeq_impl_Hit_impl_Hit__slices_Values_impl_hitHeap_impl_Hit_1 seq_0_0).bind fun r1 =>
  some r1

noncomputable def M.slices_SortFunc_impl_Hit_impl_Hit__impl_compareHits (x_0 : List (Int × Int)) : Option (List (Int × Int)) :=
  M.sortD (fun x y => M.impl_compareHits (x.1, x.2) (y.1, y.2)) x_0

noncomputable def M.slices_SortedFunc_impl_Hit__slices_Values_impl_hitHeap_impl_Hit_1__impl_compareHits (seq_0_0 : List (Int × Int)) : Option ((List (Int × Int))) :=
  (M.slices_Collect_impl_Hit__slices_Values_impl_hitHeap_impl_Hit_1 seq_0_0).bind fun r1 =>
  (M.slices_SortFunc_impl_Hit_impl_Hit__impl_compareHits r1).bind fun r7 =>
  some r7

noncomputable def M.impl_nearestHits_inOrder (n_0 : Int × (List (Int × Int))) : Option ((List (Int × Int))) :=
  (M.slices_Values_impl_hitHeap_impl_Hit n_0.2).bind fun r2 =>
  (M.slices_SortedFunc_impl_Hit__slices_Values_impl_hitHeap_impl_Hit_1__impl_compareHits n_0.2).bind fun r7 =>
  some r7

noncomputable def M.impl_nearestAmong_1__p3__p24 (x_0 : Int × (List Int) × Int) (p_1 : Int) (p_2 : List Int) : Option Int :=
  (M.impl_Distance p_1 x_0.2.1 p_2).bind fun r6 =>
  some r6

noncomputable def M.impl_nearestBy__impl_nearestAmong_1 (list_0 : List (Int × (List Int) × Int)) (k_1 : Int) (dist_2_0 : Int) (dist_2_1 : List Int) : Option ((List (Int × Int))) :=
  Option.bind (loopM (fun (s5 : ((Int) × (List (Int × Int))) × (Int)) => (bif decide (s5.2 < (list_0.length : Int)) then
  (gidx list_0 s5.2).bind fun x10 =>
  (M.impl_nearestAmong_1__p3__p24 (x10.1, x10.2.1, x10.2.2) dist_2_0 dist_2_1).bind fun r25 =>
  (M.impl_nearestHits_offer (s5.1.1, s5.1.2) (x10.1, r25)).bind fun r29 =>
  some (.inl ((r29.1, r29.2), w64 (s5.2 + 1)))
 else
  some (.inr (s5.1.1, s5.1.2)))) ((k_1, []), 0)) fun o4 =>
  (M.impl_nearestHits_inOrder (o4.1, o4.2)).bind fun r40 =>
  some r40

noncomputable def M.impl_nearestAmong (list_0 : List (Int × (List Int) × Int)) (kind_1 : Int) (at_2 : List Int) (k_3 : Int) : Option ((List (Int × Int))) :=
  (M.impl_nearestBy__impl_nearestAmong_1 list_0 k_3 kind_1 at_2).bind fun r5 =>
  some r5

noncomputable def M.impl_Nearest (list_0 : List (Int × (List Int) × Int)) (kind_1 : Int) (at_2 : List Int) (k_3 : Int) : Option ((List (Int × Int))) :=
  (M.impl_validSearch list_0 kind_1 at_2 k_3).bind fun r1 =>
  (bif !r1 then
  some []
 else
  (M.impl_nearestAmong list_0 kind_1 at_2 k_3).bind fun r6 =>
  some r6)

end Go.Vs

namespace Go.Vs

end Go.Vs

namespace Go.Vs

end Go.Vs

namespace Go.Vs

end Go.Vs

namespace Go.Vs

end Go.Vs

namespace Go.Vs

end Go.Vs

namespace Go.Vs

end Go.Vs

namespace Go.Vs

end Go.Vs

namespace Go.Vs

end Go.Vs

namespace Go.Vs

end Go.Vs

namespace Go.Vs

end Go.Vs

namespace Go.Vs

end Go.Vs

namespace Go.Vs

end Go.Vs

namespace Go.Vs

end Go.Vs

namespace Go.Vs

end Go.Vs

namespace Go.Vs

end Go.Vs

namespace Go.Vs

end Go.Vs

namespace Go.Vs

end Go.Vs

namespace Go.Vs

end Go.Vs

namespace Go.Vs

end Go.Vs

namespace Go.Vs

end Go.Vs

namespace Go.Vs

end Go.Vs

namespace Go.Vs

end Go.Vs

namespace Go.Vs

end Go.Vs

namespace Go.Vs

noncomputable def M.laws_szStringS (a_0 : List ByteArray) (left_1 : Int) : Option Int :=
  (bif decide ((w64 (left_1 - (a_0.length : Int))) < 0) then
  some (-1)
 else
  Option.bind (loopM (fun (s3 : (Int) × (Int)) => (bif decide (s3.2 < (a_0.length : Int)) then
  (gidx a_0 s3.2).bind fun x6 =>
  (bif decide ((w64 (s3.1 - (x6.size : Int))) < 0) then
  some (.inr (.inr (-1)))
 else
  some (.inl (w64 (s3.1 - (x6.size : Int)), w64 (s3.2 + 1))))
 else
  some (.inr (.inl s3.1)))) (w64 (left_1 - (a_0.length : Int)), 0)) (selim (fun t13 => some t13)
   (fun t15 => some t15)))

noncomputable def M.spec_splitAt (s_0 : ByteArray) (c_1 : UInt8) : Option ((List ByteArray)) :=
  Option.bind (loopM (fun (s4 : (List ByteArray) × (Int) × (Int)) => (bif decide (s4.2.2 < (s_0.size : Int)) then
  Option.bind ((gsix s_0 s4.2.2).bind fun x10 =>
  (bif (x10.toNat : Int) == (c_1.toNat : Int) then
  (gsub s_0 s4.2.1 s4.2.2).bind fun s13 =>
  (gapp s4.1 ([s13] : List ByteArray)).bind fun xs17 =>
  some (xs17, w64 (s4.2.2 + 1))
 else
  some (s4.1, s4.2.1))) fun o9 =>
  some (.inl (o9.1, o9.2, w64 (s4.2.2 + 1)))
 else
  some (.inr (s4.1, s4.2.1)))) (([] : List ByteArray), 0, 0)) fun o3 =>
  (gsub s_0 o3.2 (s_0.size : Int)).bind fun s28 =>
  (gapp o3.1 ([s28] : List ByteArray)).bind fun xs32 =>
  some xs32

noncomputable def M.spec_desk_put (d_0 : (List (Int × (List Int) × Int)) × Int) (key_1 : Int) (at_2 : List Int) (tags_3 : Int) : Option (ByteArray × ((List (Int × (List Int) × Int)) × Int)) :=
  (M.spec_PutItem d_0.1 (key_1, at_2, tags_3)).bind fun r2 =>
  (bif !r2.2 then
  some (ByteArray.mk #[110, 111], (d_0.1, d_0.2))
 else
  some (ByteArray.mk #[111, 107], (r2.1, d_0.2)))

noncomputable def M.spec_decimal_F (rec : (Int) → Option ByteArray) (n_0 : Int) : Option ByteArray :=
  Option.bind ((bif decide (n_0 < 0) then
  some (n_0 == (w64 (0 - n_0)))
 else
  some false)) fun o1 =>
  (bif o1 then
  some (ByteArray.mk #[45, 57, 50, 50, 51, 51, 55, 50, 48, 51, 54, 56, 53, 52, 55, 55, 53, 56, 48, 56])
 else
  (bif decide (n_0 < 0) then
  (rec (w64 (0 - n_0))).bind fun r6 =>
  (gcat (ByteArray.mk #[45]) r6).bind fun s10 =>
  some s10
 else
  (bif decide (n_0 < 10) then
  some (bstr ([gb8 (w64 (48 + n_0))] : List UInt8))
 else
  (rec (w64 (n_0.tdiv 10))).bind fun r16 =>
  (gcat r16 (bstr ([gb8 (w64 (48 + (n_0.tmod 10)))] : List UInt8))).bind fun s22 =>
  some s22)))
noncomputable def M.spec_decimal : Nat → (Int) → Option ByteArray
  | 0 => fun _ => none
  | fuel + 1 => M.spec_decimal_F (M.spec_decimal fuel)

noncomputable def M.spec_parseInt (s_0 : ByteArray) : Option (Int × Bool) :=
  Option.bind (loopM (fun (s2 : (Int) × (Int)) => Option.bind ((bif decide (s2.2 < (s_0.size : Int)) then
  some (decide ((s_0.size : Int) ≤ 4))
 else
  some false)) fun o4 =>
  (bif o4 then
  Option.bind ((gsix s_0 s2.2).bind fun x9 =>
  (M.spec_inRange (w64 (x9.toNat : Int)) 48 57).bind fun r11 =>
  (bif r11 then
  (gsix s_0 s2.2).bind fun x16 =>
  some (.inl (w64 ((w64 ((w64 (10 * s2.1)) + (w64 (x16.toNat : Int)))) - 48)))
 else
  Option.bind ((bif decide (0 < s2.2) then
  some true
 else
  (gsix s_0 s2.2).bind fun x20 =>
  some ((x20.toNat : Int) != ((45 : UInt8).toNat : Int)))) fun o18 =>
  (bif o18 then
  some (.inr (0, false))
 else
  some (.inl s2.1)))) (selim (fun t24 => some (.inl (t24, w64 (s2.2 + 1))))
   (fun t26 => some (.inr (.inr (t26.1, t26.2)))))
 else
  some (.inr (.inl s2.1)))) (0, 0)) (selim (fun t28 => Option.bind ((bif decide (0 < (s_0.size : Int)) then
  (gsix s_0 0).bind fun x32 =>
  some ((x32.toNat : Int) == ((45 : UInt8).toNat : Int))
 else
  some false)) fun o30 =>
  Option.bind ((bif o30 then
  some (w64 (0 - t28))
 else
  some t28)) fun o35 =>
  Option.bind ((bif (s_0.size : Int) == 0 then
  some true
 else
  (bif decide (4 < (s_0.size : Int)) then
  some true
 else
  (M.spec_decimal 100 o35).bind fun r41 =>
  some (!(r41.toList == s_0.toList))))) fun o38 =>
  (bif o38 then
  some (0, false)
 else
  some (o35, true)))
   (fun t47 => some (t47.1, t47.2)))

noncomputable def M.spec_numberOf (s_0 : ByteArray) : Option Int :=
  (M.spec_parseInt s_0).bind fun r1 =>
  (bif !r1.2 then
  some (-1)
 else
  some r1.1)

noncomputable def M.spec_vectorOf (s_0 : ByteArray) : Option ((List Int)) :=
  (M.spec_splitAt s_0 (44 : UInt8)).bind fun r3 =>
  Option.bind (loopM (fun (s10 : (List Int) × (Int)) => (bif decide (s10.2 < (r3.length : Int)) then
  (gidx r3 s10.2).bind fun x15 =>
  (M.spec_parseInt x15).bind fun r21 =>
  (bif !r21.2 then
  some (.inr (.inr []))
 else
  (gapp s10.1 ([r21.1] : List Int)).bind fun xs28 =>
  some (.inl (xs28, w64 (s10.2 + 1))))
 else
  some (.inr (.inl s10.1)))) (([] : List Int), 0)) (selim (fun t33 => some t33)
   (fun t37 => some t37))

noncomputable def M.spec_desk_drop (d_0 : (List (Int × (List Int) × Int)) × Int) (key_1 : Int) : Option (ByteArray × ((List (Int × (List Int) × Int)) × Int)) :=
  (M.spec_DropItem d_0.1 key_1).bind fun r2 =>
  (bif !r2.2 then
  some (ByteArray.mk #[110, 111], (d_0.1, d_0.2))
 else
  some (ByteArray.mk #[111, 107], (r2.1, d_0.2)))

noncomputable def M.spec_hitsText (list_0 : List (Int × Int)) : Option ByteArray :=
  Option.bind (loopM (fun (s2 : (ByteArray) × (Int)) => (bif decide (s2.2 < (list_0.length : Int)) then
  Option.bind ((bif decide (0 < s2.2) then
  (gcat s2.1 (ByteArray.mk #[32])).bind fun s7 =>
  some s7
 else
  some s2.1)) fun o5 =>
  (gidx list_0 s2.2).bind fun x10 =>
  (M.spec_decimal 100 x10.1).bind fun r16 =>
  (gcat o5 r16).bind fun s19 =>
  (gcat s19 (ByteArray.mk #[58])).bind fun s21 =>
  (gidx list_0 s2.2).bind fun x23 =>
  (M.spec_decimal 100 x23.2).bind fun r29 =>
  (gcat s21 r29).bind fun s33 =>
  some (.inl (s33, w64 (s2.2 + 1)))
 else
  some (.inr s2.1))) (ByteArray.mk #[], 0)) fun o1 =>
  some o1

noncomputable def M.spec_desk_near (d_0 : (List (Int × (List Int) × Int)) × Int) (at_1 : List Int) (k_2 : Int) : Option ByteArray :=
  Option.bind ((M.spec_isVector at_1).bind fun r2 =>
  (bif !r2 then
  some true
 else
  (M.spec_inRange k_2 1 16).bind fun r7 =>
  some (!r7))) fun o1 =>
  (bif o1 then
  some (ByteArray.mk #[110, 111])
 else
  (M.spec_nearest d_0.1 d_0.2 at_1 k_2).bind fun r17 =>
  (M.spec_hitsText r17).bind fun r25 =>
  some r25)

noncomputable def M.spec_desk_line (d_0 : (List (Int × (List Int) × Int)) × Int) (line_1 : ByteArray) : Option (ByteArray × ((List (Int × (List Int) × Int)) × Int)) :=
  (M.spec_splitAt line_1 (32 : UInt8)).bind fun r1 =>
  Option.bind ((gidx r1 0).bind fun x8 =>
  (bif x8.toList == (ByteArray.mk #[112, 117, 116]).toList then
  some ((r1.length : Int) == 4)
 else
  some false)) fun o7 =>
  (bif o7 then
  (gidx r1 1).bind fun x17 =>
  (M.spec_numberOf x17).bind fun r23 =>
  (gidx r1 2).bind fun x26 =>
  (M.spec_vectorOf x26).bind fun r32 =>
  (gidx r1 3).bind fun x37 =>
  (M.spec_numberOf x37).bind fun r43 =>
  (M.spec_desk_put (d_0.1, d_0.2) r23 r32 r43).bind fun r49 =>
  some (r49.1, (r49.2.1, r49.2.2))
 else
  Option.bind ((gidx r1 0).bind fun x56 =>
  (bif x56.toList == (ByteArray.mk #[100, 114, 111, 112]).toList then
  some ((r1.length : Int) == 2)
 else
  some false)) fun o55 =>
  (bif o55 then
  (gidx r1 1).bind fun x65 =>
  (M.spec_numberOf x65).bind fun r71 =>
  (M.spec_desk_drop (d_0.1, d_0.2) r71).bind fun r75 =>
  some (r75.1, (r75.2.1, r75.2.2))
 else
  Option.bind ((gidx r1 0).bind fun x82 =>
  (bif x82.toList == (ByteArray.mk #[110, 101, 97, 114]).toList then
  some ((r1.length : Int) == 3)
 else
  some false)) fun o81 =>
  (bif o81 then
  (gidx r1 1).bind fun x91 =>
  (M.spec_vectorOf x91).bind fun r97 =>
  (gidx r1 2).bind fun x102 =>
  (M.spec_numberOf x102).bind fun r108 =>
  (M.spec_desk_near (d_0.1, d_0.2) r97 r108).bind fun r114 =>
  some (r114, (d_0.1, d_0.2))
 else
  Option.bind ((gidx r1 0).bind fun x119 =>
  (bif x119.toList == (ByteArray.mk #[107, 105, 110, 100]).toList then
  some ((r1.length : Int) == 2)
 else
  some false)) fun o118 =>
  (bif o118 then
  (gidx r1 1).bind fun x128 =>
  (M.spec_numberOf x128).bind fun r134 =>
  (M.spec_validKind r134).bind fun r138 =>
  (bif !r138 then
  some (ByteArray.mk #[110, 111], (d_0.1, d_0.2))
 else
  (gidx r1 1).bind fun x143 =>
  (M.spec_numberOf x143).bind fun r149 =>
  some (ByteArray.mk #[111, 107], (d_0.1, r149)))
 else
  (bif line_1.toList == (ByteArray.mk #[112, 97, 105, 114]).toList then
  (M.spec_ClosestPair d_0.1 d_0.2).bind fun r157 =>
  (bif !r157.2.2 then
  some (ByteArray.mk #[110, 111], (d_0.1, d_0.2))
 else
  (M.spec_decimal 100 r157.1).bind fun r162 =>
  (gcat r162 (ByteArray.mk #[32])).bind fun s166 =>
  (M.spec_decimal 100 r157.2.1).bind fun r168 =>
  (gcat s166 r168).bind fun s172 =>
  some (s172, (d_0.1, d_0.2)))
 else
  (bif line_1.toList == (ByteArray.mk #[99, 111, 117, 110, 116]).toList then
  (M.spec_decimal 100 (d_0.1.length : Int)).bind fun r176 =>
  some (r176, (d_0.1, d_0.2))
 else
  some (ByteArray.mk #[119, 104, 97, 116], (d_0.1, d_0.2))))))))

noncomputable def M.spec_RunSession (lines_0 : List ByteArray) : Option ByteArray :=
  Option.bind (loopM (fun (s6 : ((List (Int × (List Int) × Int)) × (Int)) × (ByteArray) × (Int)) => Option.bind ((bif decide (s6.2.2 < (lines_0.length : Int)) then
  some (decide (s6.2.2 < 20))
 else
  some false)) fun o12 =>
  (bif o12 then
  (gidx lines_0 s6.2.2).bind fun x16 =>
  (M.spec_desk_line (s6.1.1, s6.1.2) x16).bind fun r22 =>
  (gcat s6.2.1 r22.1).bind fun s28 =>
  (gcat s28 (ByteArray.mk #[10])).bind fun s30 =>
  some (.inl ((r22.2.1, r22.2.2), s30, w64 (s6.2.2 + 1)))
 else
  some (.inr s6.2.1))) ((([] : List (Int × (List Int) × Int)), 1), ByteArray.mk #[], 0)) fun o5 =>
  some o5

noncomputable def M.laws_toStringS (a_0 : List ByteArray) : Option ((List ByteArray)) :=
  (gmake (a_0.length : Int) (ByteArray.mk #[] : ByteArray)).bind fun xs1 =>
  Option.bind (loopM (fun (s8 : (List ByteArray) × (Int)) => (bif decide (s8.2 < (a_0.length : Int)) then
  (gidx a_0 s8.2).bind fun x13 =>
  (gidx s8.1 s8.2).bind fun x19 =>
  some (.inl ((s8.1.set s8.2.toNat x13), w64 (s8.2 + 1)))
 else
  some (.inr s8.1))) (xs1, 0)) fun o7 =>
  some o7

noncomputable def M.laws_eqStringS (a_0 : List ByteArray) (b_1 : List ByteArray) : Option Bool :=
  (bif (a_0.length : Int) != (b_1.length : Int) then
  some false
 else
  Option.bind (loopM (fun (s3 : (Int)) => (bif decide (s3 < (a_0.length : Int)) then
  (gidx a_0 s3).bind fun x6 =>
  (gidx b_1 s3).bind fun x12 =>
  (bif !(x6.toList == x12.toList) then
  some (.inr (.inr false))
 else
  some (.inl (w64 (s3 + 1))))
 else
  some (.inr (.inl ())))) 0) (selim (fun t21 => some true)
   (fun t23 => some t23)))

end Go.Vs

namespace Go.Vs

end Go.Vs

namespace Go.Vs

end Go.Vs

namespace Go.Vs

noncomputable def M.impl_session_commands (s_0 : (List (Int × (List Int) × Int)) × Int) : Option Unit :=
  some ()

noncomputable def M.strings_Builder_WriteString (b_0 : List UInt8) (s_1 : ByteArray) : Option (Int × (List UInt8)) :=
  M.bldStr b_0 s_1

noncomputable def M.strings_Split (s_0 : ByteArray) (sep_1 : ByteArray) : Option (List ByteArray) :=
  M.ssplit s_0 sep_1

noncomputable def M.strings_Builder_WriteByte (b_0 : List UInt8) (c_1 : UInt8) : Option (List UInt8) :=
  M.bldByte b_0 c_1

noncomputable def M.strconv_Atoi (s_0 : ByteArray) : Option (Int × Int) :=
  M.atoi s_0

noncomputable def M.strconv_Itoa (i_0 : Int) : Option (ByteArray) :=
  M.itoa i_0

noncomputable def M.impl_parseNumber (word_0 : ByteArray) : Option (Int × Bool) :=
  (bif decide (4 < (word_0.size : Int)) then
  some (0, false)
 else
  (M.strconv_Atoi word_0).bind fun r2 =>
  Option.bind ((bif r2.2 != 0 then
  some true
 else
  (M.strconv_Itoa r2.1).bind fun r9 =>
  some (!(r9.toList == word_0.toList)))) fun o7 =>
  (bif o7 then
  some (0, false)
 else
  some (r2.1, true)))

noncomputable def M.impl_readNumber (word_0 : ByteArray) : Option Int :=
  (M.impl_parseNumber word_0).bind fun r1 =>
  (bif !r1.2 then
  some (-1)
 else
  some r1.1)

noncomputable def M.impl_readVector (word_0 : ByteArray) : Option ((List Int)) :=
  (M.strings_Split word_0 (ByteArray.mk #[44])).bind fun r1 =>
  Option.bind (loopM (fun (s8 : (List Int) × (Int)) => (bif decide (s8.2 < (r1.length : Int)) then
  (gidx r1 s8.2).bind fun x13 =>
  (M.impl_parseNumber x13).bind fun r19 =>
  (bif !r19.2 then
  some (.inr (.inr []))
 else
  (gapp s8.1 ([r19.1] : List Int)).bind fun xs26 =>
  some (.inl (xs26, w64 (s8.2 + 1))))
 else
  some (.inr (.inl s8.1)))) ([], 0)) (selim (fun t31 => some t31)
   (fun t35 => some t35))

noncomputable def M.impl_session_become (s_0 : (List (Int × (List Int) × Int)) × Int) (list_1 : List (Int × (List Int) × Int)) (ok_2 : Bool) : Option (ByteArray × ((List (Int × (List Int) × Int)) × Int)) :=
  (bif !ok_2 then
  some (ByteArray.mk #[110, 111], (s_0.1, s_0.2))
 else
  some (ByteArray.mk #[111, 107], (list_1, s_0.2)))

noncomputable def M.impl_session_put (s_0 : (List (Int × (List Int) × Int)) × Int) (words_1 : List ByteArray) : Option (ByteArray × ((List (Int × (List Int) × Int)) × Int)) :=
  (gidx words_1 0).bind fun x2 =>
  (M.impl_readNumber x2).bind fun r8 =>
  (gidx words_1 1).bind fun x11 =>
  (M.impl_readVector x11).bind fun r17 =>
  (gidx words_1 2).bind fun x22 =>
  (M.impl_readNumber x22).bind fun r28 =>
  (M.impl_PutItem s_0.1 (r8, r17, r28)).bind fun r31 =>
  (M.impl_session_become (s_0.1, s_0.2) r31.1 r31.2).bind fun r39 =>
  some (r39.1, (r39.2.1, r39.2.2))

noncomputable def M.impl_session_drop (s_0 : (List (Int × (List Int) × Int)) × Int) (words_1 : List ByteArray) : Option (ByteArray × ((List (Int × (List Int) × Int)) × Int)) :=
  (gidx words_1 0).bind fun x2 =>
  (M.impl_readNumber x2).bind fun r8 =>
  (M.impl_DropItem s_0.1 r8).bind fun r11 =>
  (M.impl_session_become (s_0.1, s_0.2) r11.1 r11.2).bind fun r19 =>
  some (r19.1, (r19.2.1, r19.2.2))

noncomputable def M.strings_Join (xs_0 : List ByteArray) (sep_1 : ByteArray) : Option (ByteArray) :=
  M.sjoin xs_0 sep_1

noncomputable def M.impl_session_near (s_0 : (List (Int × (List Int) × Int)) × Int) (words_1 : List ByteArray) : Option ByteArray :=
  (gidx words_1 0).bind fun x1 =>
  (M.impl_readVector x1).bind fun r7 =>
  (gidx words_1 1).bind fun x12 =>
  (M.impl_readNumber x12).bind fun r19 =>
  (M.impl_validSearch s_0.1 s_0.2 r7 r19).bind fun r27 =>
  (bif !r27 then
  some (ByteArray.mk #[110, 111])
 else
  (M.impl_Nearest s_0.1 s_0.2 r7 r19).bind fun r36 =>
  Option.bind (loopM (fun (s43 : (List ByteArray) × (Int)) => (bif decide (s43.2 < (r36.length : Int)) then
  (gidx r36 s43.2).bind fun x48 =>
  (M.strconv_Itoa x48.1).bind fun r59 =>
  (gcat r59 (ByteArray.mk #[58])).bind fun s62 =>
  (M.strconv_Itoa x48.2).bind fun r65 =>
  (gcat s62 r65).bind fun s68 =>
  (gapp s43.1 ([s68] : List ByteArray)).bind fun xs72 =>
  some (.inl (xs72, w64 (s43.2 + 1)))
 else
  some (.inr s43.1))) ([], 0)) fun o42 =>
  (M.strings_Join o42 (ByteArray.mk #[32])).bind fun r82 =>
  some r82)

noncomputable def M.impl_session_choose (s_0 : (List (Int × (List Int) × Int)) × Int) (words_1 : List ByteArray) : Option (ByteArray × ((List (Int × (List Int) × Int)) × Int)) :=
  (gidx words_1 0).bind fun x1 =>
  (M.impl_readNumber x1).bind fun r7 =>
  (M.impl_validKind r7).bind fun r11 =>
  (bif !r11 then
  some (ByteArray.mk #[110, 111], (s_0.1, s_0.2))
 else
  some (ByteArray.mk #[111, 107], (s_0.1, r7)))

noncomputable def M.impl_session_pair (s_0 : (List (Int × (List Int) × Int)) × Int) (p_1 : List ByteArray) : Option ByteArray :=
  (M.impl_ClosestPair s_0.1 s_0.2).bind fun r3 =>
  (bif !r3.2.2 then
  some (ByteArray.mk #[110, 111])
 else
  (M.strconv_Itoa r3.1).bind fun r8 =>
  (gcat r8 (ByteArray.mk #[32])).bind fun s12 =>
  (M.strconv_Itoa r3.2.1).bind fun r14 =>
  (gcat s12 r14).bind fun s18 =>
  some s18)

noncomputable def M.impl_session_count (s_0 : (List (Int × (List Int) × Int)) × Int) (p_1 : List ByteArray) : Option ByteArray :=
  (M.strconv_Itoa (s_0.1.length : Int)).bind fun r2 =>
  some r2

noncomputable def M.impl_runLine__cm (commands_0_0 : (List (Int × (List Int) × Int)) × Int) (line_1 : ByteArray) : Option (ByteArray × ((List (Int × (List Int) × Int)) × Int)) :=
  (M.strings_Split line_1 (ByteArray.mk #[32])).bind fun r1 =>
  (gidx r1 0).bind fun x7 =>
  (bif x7 == (ByteArray.mk #[112, 117, 116]) then
  (bif (w64 ((r1.length : Int) - 1)) != 3 then
  some (ByteArray.mk #[119, 104, 97, 116], (commands_0_0.1, commands_0_0.2))
 else
  (gslice r1 1 (r1.length : Int)).bind fun xs26 =>
  (M.impl_session_put (commands_0_0.1, commands_0_0.2) xs26).bind fun r37 =>
  some (r37.1, (r37.2.1, r37.2.2)))
 else
  (bif x7 == (ByteArray.mk #[100, 114, 111, 112]) then
  (bif (w64 ((r1.length : Int) - 1)) != 1 then
  some (ByteArray.mk #[119, 104, 97, 116], (commands_0_0.1, commands_0_0.2))
 else
  (gslice r1 1 (r1.length : Int)).bind fun xs50 =>
  (M.impl_session_drop (commands_0_0.1, commands_0_0.2) xs50).bind fun r61 =>
  some (r61.1, (r61.2.1, r61.2.2)))
 else
  (bif x7 == (ByteArray.mk #[110, 101, 97, 114]) then
  (bif (w64 ((r1.length : Int) - 1)) != 2 then
  some (ByteArray.mk #[119, 104, 97, 116], (commands_0_0.1, commands_0_0.2))
 else
  (gslice r1 1 (r1.length : Int)).bind fun xs74 =>
  (M.impl_session_near (commands_0_0.1, commands_0_0.2) xs74).bind fun r85 =>
  some (r85, (commands_0_0.1, commands_0_0.2)))
 else
  (bif x7 == (ByteArray.mk #[107, 105, 110, 100]) then
  (bif (w64 ((r1.length : Int) - 1)) != 1 then
  some (ByteArray.mk #[119, 104, 97, 116], (commands_0_0.1, commands_0_0.2))
 else
  (gslice r1 1 (r1.length : Int)).bind fun xs96 =>
  (M.impl_session_choose (commands_0_0.1, commands_0_0.2) xs96).bind fun r107 =>
  some (r107.1, (r107.2.1, r107.2.2)))
 else
  (bif x7 == (ByteArray.mk #[112, 97, 105, 114]) then
  (bif (w64 ((r1.length : Int) - 1)) != 0 then
  some (ByteArray.mk #[119, 104, 97, 116], (commands_0_0.1, commands_0_0.2))
 else
  (gslice r1 1 (r1.length : Int)).bind fun xs120 =>
  (M.impl_session_pair (commands_0_0.1, commands_0_0.2) xs120).bind fun r131 =>
  some (r131, (commands_0_0.1, commands_0_0.2)))
 else
  (bif x7 == (ByteArray.mk #[99, 111, 117, 110, 116]) then
  (bif (w64 ((r1.length : Int) - 1)) != 0 then
  some (ByteArray.mk #[119, 104, 97, 116], (commands_0_0.1, commands_0_0.2))
 else
  (gslice r1 1 (r1.length : Int)).bind fun xs142 =>
  (M.impl_session_count (commands_0_0.1, commands_0_0.2) xs142).bind fun r153 =>
  some (r153, (commands_0_0.1, commands_0_0.2)))
 else
  some (ByteArray.mk #[119, 104, 97, 116], (commands_0_0.1, commands_0_0.2))))))))

noncomputable def M.impl_RunSession (lines_0 : List ByteArray) : Option ByteArray :=
  (M.impl_session_commands (([] : List (Int × (List Int) × Int)), 1)).bind fun r4 =>
  (gslice lines_0 0 (min (lines_0.length : Int) 20)).bind fun xs11 =>
  Option.bind (loopM (fun (s18 : ((List (Int × (List Int) × Int)) × (Int)) × (List UInt8) × (Int)) => (bif decide (s18.2.2 < (xs11.length : Int)) then
  (gidx xs11 s18.2.2).bind fun x24 =>
  (M.impl_runLine__cm (s18.1.1, s18.1.2) x24).bind fun r30 =>
  (M.strings_Builder_WriteString s18.2.1 r30.1).bind fun r36 =>
  (M.strings_Builder_WriteByte r36.2 (10 : UInt8)).bind fun r41 =>
  some (.inl ((r30.2.1, r30.2.2), r41, w64 (s18.2.2 + 1)))
 else
  some (.inr s18.2.1))) (([], 1), ([] : List UInt8), 0)) fun o17 =>
  some (ByteArray.mk o17.toArray)

noncomputable def M.laws_FnExactRunSession (aLines_0 : List ByteArray) : Option Bool :=
  (M.laws_szStringS aLines_0 1048576).bind fun r1 =>
  (bif decide (r1 < 0) then
  some true
 else
  (M.laws_toStringS aLines_0).bind fun r6 =>
  (M.spec_RunSession r6).bind fun r15 =>
  (M.laws_toStringS aLines_0).bind fun r19 =>
  (M.impl_RunSession r19).bind fun r26 =>
  (bif !(r26.toList == r15.toList) then
  some false
 else
  (M.laws_toStringS aLines_0).bind fun r31 =>
  (M.laws_eqStringS r19 r31).bind fun r42 =>
  (bif !r42 then
  some false
 else
  some true)))

end Go.Vs
