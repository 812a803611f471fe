/- What the functions compute. -/
import Derived.Test.YtfcemgcmpcmgcaaStoreAtLogEng1
import Derived.Test.YtfcemgcmpcmgcaaStoreAtLogEng2
set_option linter.unusedVariables false
set_option linter.unusedSimpArgs false
namespace Go.Vs

noncomputable def M.spec_reader_pick (r_0 : (List UInt8) × Int) (n_1 : Int) : Option (Int × ((List UInt8) × Int)) :=
  Option.bind ((bif decide (n_1 < 1) then
  some true
 else
  some ((r_0.1.length : Int) == 0))) fun o5 =>
  (bif o5 then
  some (0, (r_0.1, w64 (r_0.2 + 1)))
 else
  (bif decide ((w64 ((w64 (r_0.2 + 1)) - 1)) < (r_0.1.length : Int)) then
  (gidx r_0.1 (w64 ((w64 (r_0.2 + 1)) - 1))).bind fun x12 =>
  (grem (w64 (x12.toNat : Int)) n_1).bind fun q17 =>
  some (q17, (r_0.1, w64 (r_0.2 + 1)))
 else
  (grem (w64 ((w64 (r_0.2 + 1)) - 1)) (r_0.1.length : Int)).bind fun q19 =>
  (gidx r_0.1 q19).bind fun x21 =>
  (grem (w64 ((w64 ((w64 ((w64 (r_0.2 + 1)) - 1)) * 7)) + 3)) (r_0.1.length : Int)).bind fun q26 =>
  (gidx r_0.1 q26).bind fun x28 =>
  (gquo (w64 ((w64 (r_0.2 + 1)) - 1)) (r_0.1.length : Int)).bind fun q33 =>
  (grem (gxor (w64 ((w64 ((w64 ((w64 ((w64 (x21.toNat : Int)) * 131)) + (w64 ((w64 (x28.toNat : Int)) * 1117)))) + (w64 ((w64 ((w64 (r_0.2 + 1)) - 1)) * 29)))) + (w64 (q33 * 53)))) (w64 ((w64 ((w64 ((w64 ((w64 ((w64 (x21.toNat : Int)) * 131)) + (w64 ((w64 (x28.toNat : Int)) * 1117)))) + (w64 ((w64 ((w64 (r_0.2 + 1)) - 1)) * 29)))) + (w64 (q33 * 53)))).tdiv 64))) n_1).bind fun q36 =>
  some (q36, (r_0.1, w64 (r_0.2 + 1)))))

noncomputable def M.spec_reader_one (r_0 : (List UInt8) × Int) (list_1 : List Int) : Option (Int × ((List UInt8) × Int)) :=
  (M.spec_reader_pick (r_0.1, r_0.2) (list_1.length : Int)).bind fun r1 =>
  (gidx list_1 r1.1).bind fun x9 =>
  some (x9, (r1.2.1, r1.2.2))

noncomputable def M.spec_someCoord (r_0 : (List UInt8) × Int) : Option (Int × ((List UInt8) × Int)) :=
  (M.spec_reader_pick (r_0.1, r_0.2) 201).bind fun r1 =>
  (M.spec_reader_pick (r1.2.1, r1.2.2) 21).bind fun r9 =>
  (M.spec_reader_one (r9.2.1, r9.2.2) ([0, 1, -1, 5, -7, 10, 3, 100, -100, w64 (r1.1 - 100), w64 (r9.1 - 10)] : List Int)).bind fun r27 =>
  some (r27.1, (r27.2.1, r27.2.2))

noncomputable def M.spec_someVector (r_0 : (List UInt8) × Int) : Option ((List Int) × ((List UInt8) × Int)) :=
  Option.bind (loopM (fun (s7 : ((List UInt8) × (Int)) × (List Int) × (Int)) => (bif decide (s7.2.2 < 4) then
  (M.spec_someCoord (s7.1.1, s7.1.2)).bind fun r18 =>
  (gapp s7.2.1 ([r18.1] : List Int)).bind fun xs33 =>
  some (.inl ((r18.2.1, r18.2.2), xs33, w64 (s7.2.2 + 1)))
 else
  some (.inr ((s7.1.1, s7.1.2), s7.2.1)))) ((r_0.1, r_0.2), ([] : List Int), 0)) fun o6 =>
  some (o6.2, (o6.1.1, o6.1.2))

noncomputable def M.spec_copyInts (list_0 : List Int) : Option ((List Int)) :=
  (gapp ([] : List Int) list_0).bind fun xs6 =>
  some xs6

noncomputable def M.spec_reader_spoil (r_0 : (List UInt8) × Int) (list_1 : List Int) (n_2 : Int) : Option ((List Int) × ((List UInt8) × Int)) :=
  (M.spec_copyInts list_1).bind fun r1 =>
  (M.spec_reader_pick (r_0.1, r_0.2) 20).bind fun r8 =>
  Option.bind ((bif r8.1 == 0 then
  (gapp r1 ([n_2] : List Int)).bind fun xs25 =>
  some ((r8.2.1, r8.2.2), xs25)
 else
  (bif r8.1 == 1 then
  (bif decide (0 < (r1.length : Int)) then
  (gslice r1 1 (r1.length : Int)).bind fun xs36 =>
  some ((r8.2.1, r8.2.2), xs36)
 else
  some ((r8.2.1, r8.2.2), r1))
 else
  (bif r8.1 == 2 then
  (bif decide (0 < (r1.length : Int)) then
  (M.spec_reader_pick (r8.2.1, r8.2.2) (r1.length : Int)).bind fun r44 =>
  (M.spec_reader_one (r44.2.1, r44.2.2) ([-1, n_2, 0, 1] : List Int)).bind fun r64 =>
  (gidx r1 r44.1).bind fun x73 =>
  some ((r64.2.1, r64.2.2), (r1.set r44.1.toNat r64.1))
 else
  some ((r8.2.1, r8.2.2), r1))
 else
  some ((r8.2.1, r8.2.2), r1))))) fun o17 =>
  some (o17.2, (o17.1.1, o17.1.2))

noncomputable def M.spec_anyVector (r_0 : (List UInt8) × Int) : Option ((List Int) × ((List UInt8) × Int)) :=
  (M.spec_reader_pick (r_0.1, r_0.2) 10).bind fun r1 =>
  (bif r1.1 == 0 then
  (M.spec_someVector (r1.2.1, r1.2.2)).bind fun r10 =>
  (M.spec_reader_spoil (r10.2.1, r10.2.2) r10.1 101).bind fun r26 =>
  some (r26.1, (r26.2.1, r26.2.2))
 else
  (M.spec_someVector (r1.2.1, r1.2.2)).bind fun r37 =>
  some (r37.1, (r37.2.1, r37.2.2)))

noncomputable def M.spec_newReader (code_0 : List UInt8) : Option (((List UInt8) × Int)) :=
  Option.bind ((bif decide (2000 < (code_0.length : Int)) then
  (gslice code_0 0 2000).bind fun xs3 =>
  some xs3
 else
  some code_0)) fun o1 =>
  some (o1, 0)

noncomputable def M.impl_validCoords (coords_0 : List Int) : Option Bool :=
  Option.bind (loopM (fun (s2 : (Int)) => (bif decide (s2 < (coords_0.length : Int)) then
  (gidx coords_0 s2).bind fun x5 =>
  Option.bind ((bif decide (x5 < (-100)) then
  some true
 else
  some (decide (100 < x5)))) fun o11 =>
  (bif o11 then
  some (.inr (.inr false))
 else
  some (.inl (w64 (s2 + 1))))
 else
  some (.inr (.inl ())))) 0) (selim (fun t15 => some true)
   (fun t17 => some t17))

noncomputable def M.impl_ValidVector (v_0 : List Int) : Option Bool :=
  (bif (v_0.length : Int) == 4 then
  (M.impl_validCoords v_0).bind fun r2 =>
  some r2
 else
  some false)

noncomputable def M.spec_inRange (n_0 : Int) (low_1 : Int) (high_2 : Int) : Option Bool :=
  (bif decide (low_1 ≤ n_0) then
  some (decide (n_0 ≤ high_2))
 else
  some false)

noncomputable def M.spec_allIn (list_0 : List Int) (low_1 : Int) (high_2 : Int) : Option Bool :=
  Option.bind (loopM (fun (s2 : (Int)) => (bif decide (s2 < (list_0.length : Int)) then
  (gidx list_0 s2).bind fun x7 =>
  (M.spec_inRange x7 low_1 high_2).bind fun r12 =>
  (bif !r12 then
  some (.inr (.inr false))
 else
  some (.inl (w64 (s2 + 1))))
 else
  some (.inr (.inl ())))) 0) (selim (fun t17 => some true)
   (fun t19 => some t19))

noncomputable def M.spec_isVector (v_0 : List Int) : Option Bool :=
  (bif (v_0.length : Int) == 4 then
  (M.spec_allIn v_0 (-100) 100).bind fun r2 =>
  some r2
 else
  some false)

noncomputable def M.spec_size (n_0 : Int) : Option Int :=
  some (max n_0 (w64 (0 - n_0)))

noncomputable def M.spec_toInt (b_0 : Bool) : Option Int :=
  (bif b_0 then
  some 1
 else
  some 0)

noncomputable def M.spec_dist (kind_0 : Int) (a_1 : List Int) (b_2 : List Int) : Option Int :=
  Option.bind (loopM (fun (s2 : (Int) × (Int)) => (bif decide (s2.2 < (a_1.length : Int)) then
  Option.bind ((gidx a_1 s2.2).bind fun x9 =>
  (gidx b_2 s2.2).bind fun x14 =>
  (M.spec_size (w64 (x9 - x14))).bind fun r20 =>
  (bif kind_0 == 1 then
  some (w64 (s2.1 + r20))
 else
  (bif kind_0 == 2 then
  some (max s2.1 r20)
 else
  (bif kind_0 == 3 then
  some (w64 (s2.1 + (w64 (r20 * r20))))
 else
  (M.spec_toInt (decide (0 < r20))).bind fun r27 =>
  some (w64 (s2.1 + r27)))))) fun o8 =>
  some (.inl (o8, w64 (s2.2 + 1)))
 else
  some (.inr s2.1))) (0, 0)) fun o1 =>
  some o1

noncomputable def M.laws_equalInts (a_0 : List Int) (b_1 : List Int) : Option Bool :=
  (bif (a_0.length : Int) != (b_1.length : Int) then
  some false
 else
  Option.bind (loopM (fun (s3 : (Int)) => (bif decide (s3 < (a_0.length : Int)) then
  (gidx a_0 s3).bind fun x9 =>
  (gidx b_1 s3).bind fun x14 =>
  (bif x9 != x14 then
  some (.inr (.inr false))
 else
  some (.inl (w64 (s3 + 1))))
 else
  some (.inr (.inl ())))) 0) (selim (fun t21 => some true)
   (fun t23 => some t23)))

noncomputable def M.spec_someItem (r_0 : (List UInt8) × Int) : Option ((Int × (List Int) × Int) × ((List UInt8) × Int)) :=
  (M.spec_reader_pick (r_0.1, r_0.2) 30).bind fun r7 =>
  (M.spec_someVector (r7.2.1, r7.2.2)).bind fun r16 =>
  (M.spec_reader_pick (r16.2.1, r16.2.2) 16).bind fun r29 =>
  some ((w64 (1 + r7.1), r16.1, r29.1), (r29.2.1, r29.2.2))

noncomputable def M.spec_anyItem (r_0 : (List UInt8) × Int) : Option ((Int × (List Int) × Int) × ((List UInt8) × Int)) :=
  (M.spec_someItem (r_0.1, r_0.2)).bind fun r7 =>
  (M.spec_reader_pick (r7.2.1, r7.2.2) 16).bind fun r30 =>
  Option.bind ((bif r30.1 == 0 then
  (M.spec_reader_one (r30.2.1, r30.2.2) ([0, 99, 100] : List Int)).bind fun r54 =>
  some ((r54.2.1, r54.2.2), (r54.1, r7.1.2.1, r7.1.2.2))
 else
  (bif r30.1 == 1 then
  (M.spec_anyVector (r30.2.1, r30.2.2)).bind fun r69 =>
  some ((r69.2.1, r69.2.2), (r7.1.1, r69.1, r7.1.2.2))
 else
  (bif r30.1 == 2 then
  (M.spec_reader_one (r30.2.1, r30.2.2) ([-1, 16] : List Int)).bind fun r106 =>
  some ((r106.2.1, r106.2.2), (r7.1.1, r7.1.2.1, r106.1))
 else
  some ((r30.2.1, r30.2.2), (r7.1.1, r7.1.2.1, r7.1.2.2)))))) fun o40 =>
  some ((o40.2.1, o40.2.2.1, o40.2.2.2), (o40.1.1, o40.1.2))

noncomputable def M.spec_validItem (x_0 : Int × (List Int) × Int) : Option Bool :=
  (M.spec_inRange x_0.1 1 99).bind fun r7 =>
  (bif r7 then
  (M.spec_isVector x_0.2.1).bind fun r13 =>
  (bif r13 then
  (M.spec_inRange x_0.2.2 0 15).bind fun r19 =>
  some r19
 else
  some false)
 else
  some false)

noncomputable def M.spec_validStore (list_0 : List (Int × (List Int) × Int)) : Option Bool :=
  Option.bind (loopM (fun (s2 : (Int)) => (bif decide (s2 < (list_0.length : Int)) then
  Option.bind ((gidx list_0 s2).bind fun x8 =>
  (M.spec_validItem (x8.1, x8.2.1, x8.2.2)).bind fun r19 =>
  (bif !r19 then
  some true
 else
  (bif decide (0 < s2) then
  (gidx list_0 s2).bind fun x24 =>
  (gidx list_0 (w64 (s2 - 1))).bind fun x29 =>
  some (decide (x24.1 ≤ x29.1))
 else
  some false))) fun o7 =>
  (bif o7 then
  some (.inr (.inr false))
 else
  some (.inl (w64 (s2 + 1))))
 else
  some (.inr (.inl ())))) 0) (selim (fun t39 => some (decide ((list_0.length : Int) ≤ 16)))
   (fun t42 => some t42))

noncomputable def M.spec_copyItem (x_0 : Int × (List Int) × Int) : Option ((Int × (List Int) × Int)) :=
  (M.spec_copyInts x_0.2.1).bind fun r14 =>
  some (x_0.1, r14, x_0.2.2)

noncomputable def M.spec_put (list_0 : List (Int × (List Int) × Int)) (x_1 : Int × (List Int) × Int) : Option ((List (Int × (List Int) × Int))) :=
  Option.bind (loopM (fun (s14 : (List (Int × (List Int) × Int)) × (Int)) => (bif decide (s14.2 < (list_0.length : Int)) then
  Option.bind ((gidx list_0 s14.2).bind fun x26 =>
  (bif decide (x26.1 < x_1.1) then
  (gidx list_0 s14.2).bind fun x33 =>
  (M.spec_copyItem (x33.1, x33.2.1, x33.2.2)).bind fun r44 =>
  (gapp s14.1 ([(r44.1, r44.2.1, r44.2.2)] : List (Int × (List Int) × Int))).bind fun xs60 =>
  some xs60
 else
  some s14.1)) fun o25 =>
  some (.inl (o25, w64 (s14.2 + 1)))
 else
  some (.inr s14.1))) (([] : List (Int × (List Int) × Int)), 0)) fun o13 =>
  (M.spec_copyItem (x_1.1, x_1.2.1, x_1.2.2)).bind fun r87 =>
  (gapp o13 ([(r87.1, r87.2.1, r87.2.2)] : List (Int × (List Int) × Int))).bind fun xs103 =>
  Option.bind (loopM (fun (s115 : (List (Int × (List Int) × Int)) × (Int)) => (bif decide (s115.2 < (list_0.length : Int)) then
  Option.bind ((gidx list_0 s115.2).bind fun x127 =>
  (bif decide (x_1.1 < x127.1) then
  (gidx list_0 s115.2).bind fun x134 =>
  (M.spec_copyItem (x134.1, x134.2.1, x134.2.2)).bind fun r145 =>
  (gapp s115.1 ([(r145.1, r145.2.1, r145.2.2)] : List (Int × (List Int) × Int))).bind fun xs161 =>
  some xs161
 else
  some s115.1)) fun o126 =>
  some (.inl (o126, w64 (s115.2 + 1)))
 else
  some (.inr s115.1))) (xs103, 0)) fun o114 =>
  some o114

noncomputable def M.spec_PutItem (list_0 : List (Int × (List Int) × Int)) (x_1 : Int × (List Int) × Int) : Option ((List (Int × (List Int) × Int)) × Bool) :=
  Option.bind ((M.spec_validStore list_0).bind fun r8 =>
  (bif !r8 then
  some true
 else
  (M.spec_validItem (x_1.1, x_1.2.1, x_1.2.2)).bind fun r14 =>
  some (!r14))) fun o7 =>
  (bif o7 then
  some ([], false)
 else
  (M.spec_put list_0 (x_1.1, x_1.2.1, x_1.2.2)).bind fun r24 =>
  (M.spec_validStore r24).bind fun r35 =>
  (bif !r35 then
  some ([], false)
 else
  some (r24, true)))

noncomputable def M.impl_validKey (key_0 : Int) : Option Bool :=
  (bif decide (1 ≤ key_0) then
  some (decide (key_0 ≤ 99))
 else
  some false)

noncomputable def M.impl_validTags (tags_0 : Int) : Option Bool :=
  (bif decide (0 ≤ tags_0) then
  some (decide (tags_0 ≤ 15))
 else
  some false)

noncomputable def M.impl_validItem (x_0 : Int × (List Int) × Int) : Option Bool :=
  (M.impl_validKey x_0.1).bind fun r4 =>
  (bif r4 then
  (M.impl_ValidVector x_0.2.1).bind fun r10 =>
  (bif r10 then
  (M.impl_validTags x_0.2.2).bind fun r16 =>
  some r16
 else
  some false)
 else
  some false)

noncomputable def M.impl_ValidStore (list_0 : List (Int × (List Int) × Int)) : Option Bool :=
  (bif decide (16 < (list_0.length : Int)) then
  some false
 else
  Option.bind (loopM (fun (s3 : (Int) × (Int)) => (bif decide (s3.2 < (list_0.length : Int)) then
  (gidx list_0 s3.2).bind fun x8 =>
  Option.bind ((M.impl_validItem (x8.1, x8.2.1, x8.2.2)).bind fun r30 =>
  (bif !r30 then
  some true
 else
  some (decide (x8.1 ≤ s3.1)))) fun o29 =>
  (bif o29 then
  some (.inr (.inr false))
 else
  some (.inl (x8.1, w64 (s3.2 + 1))))
 else
  some (.inr (.inl ())))) (0, 0)) (selim (fun t41 => some true)
   (fun t43 => some t43)))

noncomputable def M.cmp_isNaN_int (x_0 : Int) : Option Bool :=
  some (x_0 != x_0)

noncomputable def M.cmp_Compare_int (x_0 : Int) (y_1 : Int) : Option Int :=
  (M.cmp_isNaN_int x_0).bind fun r1 =>
  (M.cmp_isNaN_int y_1).bind fun r5 =>
  (bif r1 then
  (bif r5 then
  some 0
 else
  some (-1))
 else
  (bif r5 then
  some 1
 else
  (bif decide (x_0 < y_1) then
  some (-1)
 else
  (bif decide (y_1 < x_0) then
  some 1
 else
  some 0))))

noncomputable def M.impl_placeOf_1 (x_0 : Int × (List Int) × Int) (key_1 : Int) : Option Int :=
  (M.cmp_Compare_int x_0.1 key_1).bind fun r7 =>
  some r7

noncomputable def M.laws_equalItems (a_0 : List (Int × (List Int) × Int)) (b_1 : List (Int × (List Int) × Int)) : Option Bool :=
  (bif (a_0.length : Int) != (b_1.length : Int) then
  some false
 else
  Option.bind (loopM (fun (s3 : (Int)) => (bif decide (s3 < (a_0.length : Int)) then
  Option.bind ((gidx a_0 s3).bind fun x10 =>
  (gidx b_1 s3).bind fun x15 =>
  (bif x10.1 != x15.1 then
  some true
 else
  (gidx a_0 s3).bind fun x22 =>
  (gidx b_1 s3).bind fun x27 =>
  (bif x22.2.2 != x27.2.2 then
  some true
 else
  (gidx a_0 s3).bind fun x34 =>
  (gidx b_1 s3).bind fun x44 =>
  (M.laws_equalInts x34.2.1 x44.2.1).bind fun r55 =>
  some (!r55)))) fun o9 =>
  (bif o9 then
  some (.inr (.inr false))
 else
  some (.inl (w64 (s3 + 1))))
 else
  some (.inr (.inl ())))) 0) (selim (fun t63 => some true)
   (fun t65 => some t65)))

end Go.Vs

namespace Go.Vs

noncomputable def M.spec_keyAt (list_0 : List (Int × (List Int) × Int)) (key_1 : Int) : Option Int :=
  Option.bind (loopM (fun (s2 : (Int)) => (bif decide (s2 < (list_0.length : Int)) then
  (gidx list_0 s2).bind fun x7 =>
  (bif x7.1 == key_1 then
  some (.inr (.inr s2))
 else
  some (.inl (w64 (s2 + 1))))
 else
  some (.inr (.inl ())))) 0) (selim (fun t13 => some (-1))
   (fun t15 => some t15))

noncomputable def M.spec_DropItem (list_0 : List (Int × (List Int) × Int)) (key_1 : Int) : Option ((List (Int × (List Int) × Int)) × Bool) :=
  Option.bind ((M.spec_validStore list_0).bind fun r2 =>
  (bif !r2 then
  some true
 else
  (M.spec_keyAt list_0 key_1).bind fun r7 =>
  some (decide (r7 < 0)))) fun o1 =>
  (bif o1 then
  some ([], false)
 else
  Option.bind (loopM (fun (s20 : (List (Int × (List Int) × Int)) × (Int)) => (bif decide (s20.2 < (list_0.length : Int)) then
  Option.bind ((gidx list_0 s20.2).bind fun x29 =>
  (bif x29.1 != key_1 then
  (gidx list_0 s20.2).bind fun x35 =>
  (M.spec_copyItem (x35.1, x35.2.1, x35.2.2)).bind fun r46 =>
  (gapp s20.1 ([(r46.1, r46.2.1, r46.2.2)] : List (Int × (List Int) × Int))).bind fun xs60 =>
  some xs60
 else
  some s20.1)) fun o28 =>
  some (.inl (o28, w64 (s20.2 + 1)))
 else
  some (.inr s20.1))) (([] : List (Int × (List Int) × Int)), 0)) fun o19 =>
  some (o19, true))

end Go.Vs

namespace Go.Vs

end Go.Vs

namespace Go.Vs

end Go.Vs

namespace Go.Vs

end Go.Vs

namespace Go.Vs

noncomputable def M.slices_BinarySearchFunc_impl_Item_impl_Item_int__impl_placeOf_1 (x_0 : List (Int × (List Int) × Int)) (target_1 : Int) : Option (Int × Bool) :=
  Option.bind (loopM (fun (s2 : (Int) × (Int)) => (bif decide (s2.1 < s2.2) then
  (gidx x_0 (wk .i64 (gshr .u64 (wk .u64 (w64 (s2.1 + s2.2))) 1))).bind fun x5 =>
  (M.impl_placeOf_1 (x5.1, x5.2.1, x5.2.2) target_1).bind fun r15 =>
  (bif decide (r15 < 0) then
  some (.inl (w64 ((wk .i64 (gshr .u64 (wk .u64 (w64 (s2.1 + s2.2))) 1)) + 1), s2.2))
 else
  some (.inl (s2.1, wk .i64 (gshr .u64 (wk .u64 (w64 (s2.1 + s2.2))) 1))))
 else
  some (.inr s2.1))) (0, (x_0.length : Int))) fun o1 =>
  (bif decide (o1 < (x_0.length : Int)) then
  (gidx x_0 o1).bind fun x22 =>
  (M.impl_placeOf_1 (x22.1, x22.2.1, x22.2.2) target_1).bind fun r32 =>
  some (o1, r32 == 0)
 else
  some (o1, false))

noncomputable def M.impl_placeOf (list_0 : List (Int × (List Int) × Int)) (key_1 : Int) : Option (Int × Bool) :=
  (M.slices_BinarySearchFunc_impl_Item_impl_Item_int__impl_placeOf_1 list_0 key_1).bind fun r1 =>
  some (r1.1, r1.2)

noncomputable def M.slices_Clone_int_int (s_0 : List Int) : Option ((List Int)) :=
  (gapp ([] : List Int) s_0).bind fun xs4 =>
  some xs4

noncomputable def M.impl_copyItem (x_0 : Int × (List Int) × Int) : Option ((Int × (List Int) × Int)) :=
  (M.slices_Clone_int_int x_0.2.1).bind fun r7 =>
  some (x_0.1, r7, x_0.2.2)

noncomputable def M.impl_copyItems (list_0 : List (Int × (List Int) × Int)) : Option ((List (Int × (List Int) × Int))) :=
  (gmake (list_0.length : Int) ((0, [], 0) : Int × (List Int) × Int)).bind fun xs1 =>
  Option.bind (loopM (fun (s8 : (List (Int × (List Int) × Int)) × (Int)) => (bif decide (s8.2 < (list_0.length : Int)) then
  (gidx list_0 s8.2).bind fun x13 =>
  (M.impl_copyItem (x13.1, x13.2.1, x13.2.2)).bind fun r27 =>
  (gidx s8.1 s8.2).bind fun x33 =>
  some (.inl ((s8.1.set s8.2.toNat (r27.1, r27.2.1, r27.2.2)), w64 (s8.2 + 1)))
 else
  some (.inr s8.1))) (xs1, 0)) fun o7 =>
  some o7

end Go.Vs

namespace Go.Vs

noncomputable def M.slices_Insert_impl_Item_impl_Item (s_0 : List (Int × (List Int) × Int)) (i_1 : Int) (v_2 : List (Int × (List Int) × Int)) : Option ((List (Int × (List Int) × Int))) :=
  (gslice s_0 i_1 (s_0.length : Int)).bind fun xs1 =>
  (bif (v_2.length : Int) == 0 then
  some s_0
 else
  (bif i_1 == (s_0.length : Int) then
  (gapp s_0 v_2).bind fun xs9 =>
  some xs9
 else
  (bif decide ((s_0.length : Int) < (w64 ((s_0.length : Int) + (v_2.length : Int)))) then
  (gslice s_0 0 i_1).bind fun xs15 =>
  (gappz xs15 (w64 ((w64 ((s_0.length : Int) + (v_2.length : Int))) - i_1)) ((0, [], 0) : Int × (List Int) × Int)).bind fun xs21 =>
  (gslice xs21 i_1 (xs21.length : Int)).bind fun xs26 =>
  (gslice (gcopyAt xs21 (i_1).toNat xs26.length v_2) (w64 (i_1 + (v_2.length : Int))) ((gcopyAt xs21 (i_1).toNat xs26.length v_2).length : Int)).bind fun xs33 =>
  (gslice s_0 i_1 (s_0.length : Int)).bind fun xs39 =>
  some (gcopyAt (gcopyAt xs21 (i_1).toNat xs26.length v_2) (w64 (i_1 + (v_2.length : Int))).toNat xs33.length xs39)
 else
  none)))

noncomputable def M.impl_PutItem (list_0 : List (Int × (List Int) × Int)) (x_1 : Int × (List Int) × Int) : Option ((List (Int × (List Int) × Int)) × Bool) :=
  Option.bind ((M.impl_ValidStore list_0).bind fun r4 =>
  (bif !r4 then
  some true
 else
  (M.impl_validItem (x_1.1, x_1.2.1, x_1.2.2)).bind fun r10 =>
  some (!r10))) fun o3 =>
  (bif o3 then
  some ([], false)
 else
  (M.impl_placeOf list_0 x_1.1).bind fun r17 =>
  (bif r17.2 then
  (M.impl_copyItems list_0).bind fun r22 =>
  (M.impl_copyItem (x_1.1, x_1.2.1, x_1.2.2)).bind fun r30 =>
  (gidx r22 r17.1).bind fun x36 =>
  some ((r22.set r17.1.toNat (r30.1, r30.2.1, r30.2.2)), true)
 else
  (bif (list_0.length : Int) == 16 then
  some ([], false)
 else
  (M.impl_copyItems list_0).bind fun r48 =>
  (M.impl_copyItem (x_1.1, x_1.2.1, x_1.2.2)).bind fun r55 =>
  (M.slices_Insert_impl_Item_impl_Item r48 r17.1 ([(r55.1, r55.2.1, r55.2.2)] : List (Int × (List Int) × Int))).bind fun r64 =>
  some (r64, true))))

noncomputable def M.slices_Delete_impl_Item_impl_Item (s_0 : List (Int × (List Int) × Int)) (i_1 : Int) (j_2 : Int) : Option ((List (Int × (List Int) × Int))) :=
  (gthree i_1 j_2 (s_0.length : Int) s_0.length).bind fun o1 =>
  (bif i_1 == j_2 then
  some s_0
 else
  (gslice s_0 0 i_1).bind fun xs4 =>
  (gslice s_0 j_2 (s_0.length : Int)).bind fun xs10 =>
  (gapp xs4 xs10).bind fun xs17 =>
  some xs17)

noncomputable def M.impl_DropItem (list_0 : List (Int × (List Int) × Int)) (key_1 : Int) : Option ((List (Int × (List Int) × Int)) × Bool) :=
  (M.impl_ValidStore list_0).bind fun r1 =>
  (bif !r1 then
  some ([], false)
 else
  (M.impl_placeOf list_0 key_1).bind fun r6 =>
  (bif !r6.2 then
  some ([], false)
 else
  (M.impl_copyItems list_0).bind fun r11 =>
  (M.slices_Delete_impl_Item_impl_Item r11 r6.1 (w64 (r6.1 + 1))).bind fun r18 =>
  some (r18, true)))

end Go.Vs

namespace Go.Vs

end Go.Vs

namespace Go.Vs

end Go.Vs

namespace Go.Vs

end Go.Vs

namespace Go.Vs

end Go.Vs

namespace Go.Vs

end Go.Vs

namespace Go.Vs

end Go.Vs

namespace Go.Vs

end Go.Vs

namespace Go.Vs

end Go.Vs

namespace Go.Vs

noncomputable def M.slices_Equal_int_int (s1_0 : List Int) (s2_1 : List Int) : Option Bool :=
  (bif (s1_0.length : Int) != (s2_1.length : Int) then
  some false
 else
  Option.bind (loopM (fun (s3 : (Int)) => (bif decide (s3 < (s1_0.length : Int)) then
  (gidx s1_0 s3).bind fun x6 =>
  (gidx s2_1 s3).bind fun x12 =>
  (bif x6 != x12 then
  some (.inr (.inr false))
 else
  some (.inl (w64 (s3 + 1))))
 else
  some (.inr (.inl ())))) 0) (selim (fun t21 => some true)
   (fun t23 => some t23)))

end Go.Vs

namespace Go.Vs

end Go.Vs

namespace Go.Vs

theorem gslice_nat {α : Type} {xs : List α} {l h : Nat} (h1 : l ≤ h) (h2 : h ≤ xs.length) : gslice xs (l : Int) (h : Int) = some ((xs.take h).drop l) := by
  unfold gslice; rw [if_pos (by omega)]; simp
end Go.Vs

namespace Go.Vs

end Go.Vs

namespace Go.Vs

end Go.Vs

namespace Go.Vs

end Go.Vs

namespace Go.Vs

end Go.Vs

namespace Go.Vs

end Go.Vs

namespace Go.Vs

end Go.Vs

namespace Go.Vs

noncomputable def M.spec_validEntry (e_0 : Int × (Int × (List Int) × Int)) : Option Bool :=
  (bif e_0.1 == 1 then
  (M.spec_validItem (e_0.2.1, e_0.2.2.1, e_0.2.2.2)).bind fun r6 =>
  some r6
 else
  (bif e_0.1 == 2 then
  (M.spec_inRange e_0.2.1 1 99).bind fun r13 =>
  (bif r13 then
  (bif (e_0.2.2.1.length : Int) == 0 then
  some (e_0.2.2.2 == 0)
 else
  some false)
 else
  some false)
 else
  some false))

noncomputable def M.spec_validLog (list_0 : List (Int × (Int × (List Int) × Int))) : Option Bool :=
  Option.bind (loopM (fun (s2 : (Int)) => (bif decide (s2 < (list_0.length : Int)) then
  (gidx list_0 s2).bind fun x5 =>
  (M.spec_validEntry (x5.1, (x5.2.1, x5.2.2.1, x5.2.2.2))).bind fun r15 =>
  (bif !r15 then
  some (.inr (.inr false))
 else
  some (.inl (w64 (s2 + 1))))
 else
  some (.inr (.inl ())))) 0) (selim (fun t20 => some (decide ((list_0.length : Int) ≤ 32)))
   (fun t22 => some t22))

noncomputable def M.spec_copyStore (list_0 : List (Int × (List Int) × Int)) : Option ((List (Int × (List Int) × Int))) :=
  Option.bind (loopM (fun (s4 : (List (Int × (List Int) × Int)) × (Int)) => (bif decide (s4.2 < (list_0.length : Int)) then
  (gidx list_0 s4.2).bind fun x9 =>
  (M.spec_copyItem (x9.1, x9.2.1, x9.2.2)).bind fun r19 =>
  (gapp s4.1 ([(r19.1, r19.2.1, r19.2.2)] : List (Int × (List Int) × Int))).bind fun xs29 =>
  some (.inl (xs29, w64 (s4.2 + 1)))
 else
  some (.inr s4.1))) (([] : List (Int × (List Int) × Int)), 0)) fun o3 =>
  some o3

noncomputable def M.spec_apply (list_0 : List (Int × (List Int) × Int)) (e_1 : Int × (Int × (List Int) × Int)) : Option ((List (Int × (List Int) × Int)) × Bool) :=
  (bif e_1.1 == 1 then
  (M.spec_PutItem list_0 (e_1.2.1, e_1.2.2.1, e_1.2.2.2)).bind fun r6 =>
  some (r6.1, r6.2)
 else
  (M.spec_DropItem list_0 e_1.2.1).bind fun r13 =>
  some (r13.1, r13.2))

noncomputable def M.spec_ReplayLog (list_0 : List (Int × (List Int) × Int)) (log_1 : List (Int × (Int × (List Int) × Int))) : Option ((List (Int × (List Int) × Int)) × Int) :=
  Option.bind ((M.spec_validStore list_0).bind fun r2 =>
  (bif !r2 then
  some true
 else
  (M.spec_validLog log_1).bind fun r7 =>
  some (!r7))) fun o1 =>
  (bif o1 then
  some ([], -1)
 else
  (M.spec_copyStore list_0).bind fun r13 =>
  Option.bind (loopM (fun (s20 : (List (Int × (List Int) × Int)) × (Int)) => (bif decide (s20.2 < (log_1.length : Int)) then
  (gidx log_1 s20.2).bind fun x25 =>
  (M.spec_apply s20.1 (x25.1, (x25.2.1, x25.2.2.1, x25.2.2.2))).bind fun r35 =>
  (bif !r35.2 then
  some (.inr (.inr (s20.1, s20.2)))
 else
  some (.inl (r35.1, w64 (s20.2 + 1))))
 else
  some (.inr (.inl s20.1)))) (r13, 0)) (selim (fun t42 => some (t42, (log_1.length : Int)))
   (fun t46 => some (t46.1, t46.2))))

noncomputable def M.spec_someEntry (r_0 : (List UInt8) × Int) : Option ((Int × (Int × (List Int) × Int)) × ((List UInt8) × Int)) :=
  (M.spec_reader_pick (r_0.1, r_0.2) 3).bind fun r3 =>
  (bif r3.1 == 0 then
  (M.spec_reader_pick (r3.2.1, r3.2.2) 12).bind fun r10 =>
  some ((2, (w64 (1 + r10.1), ([] : List Int), 0)), (r10.2.1, r10.2.2))
 else
  (M.spec_someItem (r3.2.1, r3.2.2)).bind fun r19 =>
  (M.spec_reader_pick (r19.2.1, r19.2.2) 12).bind fun r30 =>
  some ((1, (w64 (1 + r30.1), r19.1.2.1, r19.1.2.2)), (r30.2.1, r30.2.2)))

noncomputable def M.spec_anyEntry (r_0 : (List UInt8) × Int) : Option ((Int × (Int × (List Int) × Int)) × ((List UInt8) × Int)) :=
  (M.spec_someEntry (r_0.1, r_0.2)).bind fun r3 =>
  (M.spec_reader_pick (r3.2.1, r3.2.2) 16).bind fun r14 =>
  Option.bind ((bif r14.1 == 0 then
  (M.spec_reader_one (r14.2.1, r14.2.2) ([0, 3, 1, 2] : List Int)).bind fun r26 =>
  some ((r26.2.1, r26.2.2), (r26.1, (r3.1.2.1, r3.1.2.2.1, r3.1.2.2.2)))
 else
  (bif r14.1 == 1 then
  (M.spec_anyItem (r14.2.1, r14.2.2)).bind fun r34 =>
  some ((r34.2.1, r34.2.2), (r3.1.1, (r34.1.1, r34.1.2.1, r34.1.2.2)))
 else
  some ((r14.2.1, r14.2.2), (r3.1.1, (r3.1.2.1, r3.1.2.2.1, r3.1.2.2.2)))))) fun o20 =>
  some ((o20.2.1, (o20.2.2.1, o20.2.2.2.1, o20.2.2.2.2)), (o20.1.1, o20.1.2))

noncomputable def M.spec_sameItem (a_0 : Int × (List Int) × Int) (b_1 : Int × (List Int) × Int) : Option Bool :=
  (bif a_0.1 == b_1.1 then
  (bif a_0.2.2 == b_1.2.2 then
  (M.spec_dist 4 a_0.2.1 b_1.2.1).bind fun r13 =>
  some (r13 == 0)
 else
  some false)
 else
  some false)

noncomputable def M.spec_LogBetween (a_0 : List (Int × (List Int) × Int)) (b_1 : List (Int × (List Int) × Int)) : Option ((List (Int × (Int × (List Int) × Int)))) :=
  Option.bind ((M.spec_validStore a_0).bind fun r4 =>
  (bif !r4 then
  some true
 else
  (M.spec_validStore b_1).bind fun r9 =>
  some (!r9))) fun o3 =>
  (bif o3 then
  some []
 else
  Option.bind (loopM (fun (s16 : (List (Int × (Int × (List Int) × Int))) × (Int)) => (bif decide (s16.2 < (a_0.length : Int)) then
  Option.bind ((gidx a_0 s16.2).bind fun x22 =>
  (M.spec_keyAt b_1 x22.1).bind fun r28 =>
  (bif decide (r28 < 0) then
  (gidx a_0 s16.2).bind fun x33 =>
  (gapp s16.1 ([(2, (x33.1, ([] : List Int), 0))] : List (Int × (Int × (List Int) × Int)))).bind fun xs45 =>
  some xs45
 else
  some s16.1)) fun o21 =>
  some (.inl (o21, w64 (s16.2 + 1)))
 else
  some (.inr s16.1))) (([] : List (Int × (Int × (List Int) × Int))), 0)) fun o15 =>
  Option.bind (loopM (fun (s57 : (List (Int × (Int × (List Int) × Int))) × (Int)) => (bif decide (s57.2 < (b_1.length : Int)) then
  Option.bind ((gidx b_1 s57.2).bind fun x63 =>
  (M.spec_keyAt a_0 x63.1).bind fun r69 =>
  Option.bind ((bif decide (r69 < 0) then
  some true
 else
  (gidx a_0 r69).bind fun x77 =>
  (gidx b_1 s57.2).bind fun x87 =>
  (M.spec_sameItem (x77.1, x77.2.1, x77.2.2) (x87.1, x87.2.1, x87.2.2)).bind fun r99 =>
  some (!r99))) fun o73 =>
  (bif o73 then
  (gidx b_1 s57.2).bind fun x105 =>
  (M.spec_copyItem (x105.1, x105.2.1, x105.2.2)).bind fun r115 =>
  (gapp s57.1 ([(1, (r115.1, r115.2.1, r115.2.2))] : List (Int × (Int × (List Int) × Int)))).bind fun xs125 =>
  some xs125
 else
  some s57.1)) fun o62 =>
  some (.inl (o62, w64 (s57.2 + 1)))
 else
  some (.inr s57.1))) (o15, 0)) fun o56 =>
  some o56)

noncomputable def M.spec_copyEntry (e_0 : Int × (Int × (List Int) × Int)) : Option ((Int × (Int × (List Int) × Int))) :=
  (M.spec_copyItem (e_0.2.1, e_0.2.2.1, e_0.2.2.2)).bind fun r7 =>
  some (e_0.1, (r7.1, r7.2.1, r7.2.2))

end Go.Vs

namespace Go.Vs

noncomputable def M.cmp_Less_int (x_0 : Int) (y_1 : Int) : Option Bool :=
  (M.cmp_isNaN_int x_0).bind fun r1 =>
  (bif r1 then
  (M.cmp_isNaN_int y_1).bind fun r6 =>
  (bif !r6 then
  some true
 else
  some (decide (x_0 < y_1)))
 else
  some (decide (x_0 < y_1)))

end Go.Vs

namespace Go.Vs

end Go.Vs

namespace Go.Vs

noncomputable def M.spec_validHistory (h_0 : (List (Int × (Int × (List Int) × Int))) × (List Int)) : Option Bool :=
  Option.bind ((M.spec_validLog h_0.1).bind fun r5 =>
  (bif !r5 then
  some true
 else
  some ((h_0.2.length : Int) != (h_0.1.length : Int)))) fun o3 =>
  (bif o3 then
  some false
 else
  Option.bind (loopM (fun (s15 : (Int)) => (bif decide (s15 < (h_0.2.length : Int)) then
  Option.bind ((gidx h_0.2 s15).bind fun x21 =>
  (M.spec_inRange x21 1 1000).bind fun r27 =>
  (bif !r27 then
  some true
 else
  (bif decide (0 < s15) then
  (gidx h_0.2 s15).bind fun x34 =>
  (gidx h_0.2 (w64 (s15 - 1))).bind fun x41 =>
  some (decide (x34 < x41))
 else
  some false))) fun o19 =>
  (bif o19 then
  some (.inr (.inr false))
 else
  some (.inl (w64 (s15 + 1))))
 else
  some (.inr (.inl ())))) 0) (selim (fun t51 => (M.spec_ReplayLog ([] : List (Int × (List Int) × Int)) h_0.1).bind fun r58 =>
  some (r58.2 == (h_0.1.length : Int)))
   (fun t65 => some t65)))

noncomputable def M.spec_copyHistory (h_0 : (List (Int × (Int × (List Int) × Int))) × (List Int)) (n_1 : Int) : Option (((List (Int × (Int × (List Int) × Int))) × (List Int))) :=
  Option.bind (loopM (fun (s8 : (List (Int × (Int × (List Int) × Int))) × (Int)) => (bif decide (s8.2 < n_1) then
  (gidx h_0.1 s8.2).bind fun x14 =>
  (M.spec_copyEntry (x14.1, (x14.2.1, x14.2.2.1, x14.2.2.2))).bind fun r24 =>
  (gapp s8.1 ([(r24.1, (r24.2.1, r24.2.2.1, r24.2.2.2))] : List (Int × (Int × (List Int) × Int)))).bind fun xs34 =>
  some (.inl (xs34, w64 (s8.2 + 1)))
 else
  some (.inr s8.1))) (([] : List (Int × (Int × (List Int) × Int))), 0)) fun o7 =>
  (gslice h_0.2 0 n_1).bind fun xs43 =>
  (M.spec_copyInts xs43).bind fun r49 =>
  some (o7, r49)

noncomputable def M.spec_AddEntry (h_0 : (List (Int × (Int × (List Int) × Int))) × (List Int)) (e_1 : Int × (Int × (List Int) × Int)) (t_2 : Int) : Option (((List (Int × (Int × (List Int) × Int))) × (List Int)) × Bool) :=
  Option.bind ((M.spec_validHistory (h_0.1, h_0.2)).bind fun r9 =>
  (bif !r9 then
  some true
 else
  (M.spec_validEntry (e_1.1, (e_1.2.1, e_1.2.2.1, e_1.2.2.2))).bind fun r15 =>
  some (!r15))) fun o7 =>
  (bif o7 then
  some (([], []), false)
 else
  (M.spec_copyHistory (h_0.1, h_0.2) (h_0.1.length : Int)).bind fun r24 =>
  (M.spec_copyEntry (e_1.1, (e_1.2.1, e_1.2.2.1, e_1.2.2.2))).bind fun r37 =>
  (gapp r24.1 ([(r37.1, (r37.2.1, r37.2.2.1, r37.2.2.2))] : List (Int × (Int × (List Int) × Int)))).bind fun xs44 =>
  (gapp r24.2 ([t_2] : List Int)).bind fun xs53 =>
  (M.spec_validHistory (xs44, xs53)).bind fun r60 =>
  (bif !r60 then
  some (([], []), false)
 else
  some ((xs44, xs53), true)))

noncomputable def M.spec_someHistory (r_0 : (List UInt8) × Int) : Option (((List (Int × (Int × (List Int) × Int))) × (List Int)) × ((List UInt8) × Int)) :=
  (M.spec_reader_pick (r_0.1, r_0.2) 20).bind fun r10 =>
  (M.spec_reader_one (r10.2.1, r10.2.2) ([5, 8, 12, 3, 0, 20] : List Int)).bind fun r20 =>
  Option.bind (loopM (fun (s27 : ((List UInt8) × (Int)) × ((List (Int × (Int × (List Int) × Int))) × (List Int)) × (Int) × (Int)) => (bif decide (0 < s27.2.2.2) then
  (M.spec_someEntry (s27.1.1, s27.1.2)).bind fun r37 =>
  (M.spec_AddEntry (s27.2.1.1, s27.2.1.2) (r37.1.1, (r37.1.2.1, r37.1.2.2.1, r37.1.2.2.2)) s27.2.2.1).bind fun r44 =>
  Option.bind ((bif r44.2 then
  some (r44.1.1, r44.1.2)
 else
  some (s27.2.1.1, s27.2.1.2))) fun o53 =>
  (M.spec_reader_one (r37.2.1, r37.2.2) ([0, 1, 5, 10] : List Int)).bind fun r66 =>
  some (.inl ((r66.2.1, r66.2.2), (o53.1, o53.2), w64 (s27.2.2.1 + r66.1), w64 (s27.2.2.2 - 1)))
 else
  some (.inr ((s27.1.1, s27.1.2), (s27.2.1.1, s27.2.1.2))))) ((r20.2.1, r20.2.2), (([] : List (Int × (Int × (List Int) × Int))), ([] : List Int)), w64 (1 + r10.1), r20.1)) fun o26 =>
  some ((o26.2.1, o26.2.2), (o26.1.1, o26.1.2))

noncomputable def M.spec_anyHistory (r_0 : (List UInt8) × Int) : Option (((List (Int × (Int × (List Int) × Int))) × (List Int)) × ((List UInt8) × Int)) :=
  (M.spec_someHistory (r_0.1, r_0.2)).bind fun r3 =>
  (M.spec_reader_pick (r3.2.1, r3.2.2) 16).bind fun r16 =>
  Option.bind ((bif r16.1 == 0 then
  (gapp r3.1.2 ([1000] : List Int)).bind fun xs27 =>
  (M.spec_reader_spoil (r16.2.1, r16.2.2) xs27 1001).bind fun r34 =>
  some ((r34.2.1, r34.2.2), (r3.1.1, r34.1))
 else
  (bif r16.1 == 1 then
  (M.spec_anyEntry (r16.2.1, r16.2.2)).bind fun r45 =>
  (gapp r3.1.1 ([(r45.1.1, (r45.1.2.1, r45.1.2.2.1, r45.1.2.2.2))] : List (Int × (Int × (List Int) × Int)))).bind fun xs54 =>
  (M.spec_reader_one (r45.2.1, r45.2.2) ([0, 900] : List Int)).bind fun r62 =>
  (gapp r3.1.2 ([r62.1] : List Int)).bind fun xs69 =>
  some ((r62.2.1, r62.2.2), (xs54, xs69))
 else
  some ((r16.2.1, r16.2.2), (r3.1.1, r3.1.2))))) fun o22 =>
  some ((o22.2.1, o22.2.2), (o22.1.1, o22.1.2))

noncomputable def M.spec_ValidHistory (h_0 : (List (Int × (Int × (List Int) × Int))) × (List Int)) : Option Bool :=
  (M.spec_validHistory (h_0.1, h_0.2)).bind fun r4 =>
  some r4

noncomputable def M.spec_historyTime (r_0 : (List UInt8) × Int) (h_1 : (List (Int × (Int × (List Int) × Int))) × (List Int)) : Option (Int × ((List UInt8) × Int)) :=
  Option.bind ((bif decide (0 < (h_1.2.length : Int)) then
  (M.spec_reader_pick (r_0.1, r_0.2) 4).bind fun r6 =>
  some ((r6.2.1, r6.2.2), decide (0 < r6.1))
 else
  some ((r_0.1, r_0.2), false))) fun o3 =>
  (bif o3.2 then
  (M.spec_reader_pick (o3.1.1, o3.1.2) (h_1.2.length : Int)).bind fun r18 =>
  (gidx h_1.2 r18.1).bind fun x23 =>
  (M.spec_reader_one (r18.2.1, r18.2.2) ([0, 0, -1, 1] : List Int)).bind fun r30 =>
  some (w64 (x23 + r30.1), (r30.2.1, r30.2.2))
 else
  (M.spec_reader_one (o3.1.1, o3.1.2) ([0, 1000, 1001, -1, 50] : List Int)).bind fun r40 =>
  some (r40.1, (r40.2.1, r40.2.2)))

noncomputable def M.spec_upTo (h_0 : (List (Int × (Int × (List Int) × Int))) × (List Int)) (t_1 : Int) : Option Int :=
  Option.bind (loopM (fun (s4 : (Int) × (Int)) => (bif decide (s4.2 < (h_0.2.length : Int)) then
  (gidx h_0.2 s4.2).bind fun x9 =>
  (M.spec_toInt (decide (x9 ≤ t_1))).bind fun r15 =>
  some (.inl (w64 (s4.1 + r15), w64 (s4.2 + 1)))
 else
  some (.inr s4.1))) (0, 0)) fun o3 =>
  some o3

noncomputable def M.spec_StoreAt (h_0 : (List (Int × (Int × (List Int) × Int))) × (List Int)) (t_1 : Int) : Option ((List (Int × (List Int) × Int))) :=
  Option.bind ((M.spec_validHistory (h_0.1, h_0.2)).bind fun r5 =>
  (bif !r5 then
  some true
 else
  (M.spec_inRange t_1 0 1000).bind fun r10 =>
  some (!r10))) fun o3 =>
  (bif o3 then
  some []
 else
  (M.spec_upTo (h_0.1, h_0.2) t_1).bind fun r19 =>
  (gslice h_0.1 0 r19).bind fun xs22 =>
  (M.spec_ReplayLog ([] : List (Int × (List Int) × Int)) xs22).bind fun r28 =>
  some r28.1)

noncomputable def M.spec_DrawChangedKeys (code_0 : List UInt8) : Option (((List (Int × (Int × (List Int) × Int))) × (List Int)) × Int × Int) :=
  (M.spec_newReader code_0).bind fun r3 =>
  (M.spec_anyHistory (r3.1, r3.2)).bind fun r10 =>
  (M.spec_historyTime (r10.2.1, r10.2.2) (r10.1.1, r10.1.2)).bind fun r28 =>
  (M.spec_historyTime (r28.2.1, r28.2.2) (r10.1.1, r10.1.2)).bind fun r36 =>
  some ((r10.1.1, r10.1.2), r28.1, r36.1)

noncomputable def M.spec_ChangedKeys (h_0 : (List (Int × (Int × (List Int) × Int))) × (List Int)) (a_1 : Int) (b_2 : Int) : Option ((List Int)) :=
  Option.bind ((M.spec_validHistory (h_0.1, h_0.2)).bind fun r7 =>
  (bif !r7 then
  some true
 else
  (M.spec_inRange a_1 0 1000).bind fun r12 =>
  (bif !r12 then
  some true
 else
  (M.spec_inRange b_2 0 1000).bind fun r17 =>
  some (!r17)))) fun o5 =>
  (bif o5 then
  some []
 else
  (M.spec_StoreAt (h_0.1, h_0.2) a_1).bind fun r24 =>
  (M.spec_StoreAt (h_0.1, h_0.2) b_2).bind fun r31 =>
  Option.bind (loopM (fun (s38 : (List Int) × (Int)) => (bif decide (s38.2 ≤ 99) then
  Option.bind ((M.spec_keyAt r24 s38.2).bind fun r44 =>
  (M.spec_keyAt r31 s38.2).bind fun r48 =>
  Option.bind ((bif (decide (r44 < 0)) != (decide (r48 < 0)) then
  some true
 else
  (bif decide (0 ≤ r44) then
  (bif decide (0 ≤ r48) then
  (gidx r24 r44).bind fun x58 =>
  (gidx r31 r48).bind fun x68 =>
  (M.spec_sameItem (x58.1, x58.2.1, x58.2.2) (x68.1, x68.2.1, x68.2.2)).bind fun r80 =>
  some (!r80)
 else
  some false)
 else
  some false))) fun o52 =>
  (bif o52 then
  (gapp s38.1 ([s38.2] : List Int)).bind fun xs92 =>
  some xs92
 else
  some s38.1)) fun o43 =>
  some (.inl (o43, w64 (s38.2 + 1)))
 else
  some (.inr s38.1))) (([] : List Int), 1)) fun o37 =>
  some o37)

end Go.Vs

namespace Go.Vs

end Go.Vs

namespace Go.Vs

end Go.Vs

namespace Go.Vs

end Go.Vs

namespace Go.Vs

end Go.Vs

namespace Go.Vs

end Go.Vs

namespace Go.Vs

noncomputable def M.impl_dropChange_entry (c_0 : Int) : Option ((Int × (Int × (List Int) × Int))) :=
  some (2, (c_0, [], 0))

noncomputable def M.impl_equalItems (a_0 : Int × (List Int) × Int) (b_1 : Int × (List Int) × Int) : Option Bool :=
  (bif a_0.1 == b_1.1 then
  (bif a_0.2.2 == b_1.2.2 then
  (M.slices_Equal_int_int a_0.2.1 b_1.2.1).bind fun r13 =>
  some r13
 else
  some false)
 else
  some false)

noncomputable def M.impl_hasItem_1__p_impl_Item (y_0 : Int × (List Int) × Int) (p_1 : Int × (List Int) × Int) : Option Bool :=
  (M.impl_equalItems (p_1.1, p_1.2.1, p_1.2.2) (y_0.1, y_0.2.1, y_0.2.2)).bind fun r5 =>
  some r5

noncomputable def M.slices_IndexFunc_impl_Item_impl_Item__impl_hasItem_1 (s_0 : List (Int × (List Int) × Int)) (f_1_0 : Int × (List Int) × Int) : Option Int :=
  Option.bind (loopM (fun (s2 : (Int)) => (bif decide (s2 < (s_0.length : Int)) then
  (gidx s_0 s2).bind fun x5 =>
  (M.impl_hasItem_1__p_impl_Item (x5.1, x5.2.1, x5.2.2) (f_1_0.1, f_1_0.2.1, f_1_0.2.2)).bind fun r15 =>
  (bif r15 then
  some (.inr (.inr s2))
 else
  some (.inl (w64 (s2 + 1))))
 else
  some (.inr (.inl ())))) 0) (selim (fun t20 => some (-1))
   (fun t22 => some t22))

noncomputable def M.slices_ContainsFunc_impl_Item_impl_Item__impl_hasItem_1 (s_0 : List (Int × (List Int) × Int)) (f_1_0 : Int × (List Int) × Int) : Option Bool :=
  (M.slices_IndexFunc_impl_Item_impl_Item__impl_hasItem_1 s_0 (f_1_0.1, f_1_0.2.1, f_1_0.2.2)).bind fun r1 =>
  some (decide (0 ≤ r1))

noncomputable def M.impl_hasItem (list_0 : List (Int × (List Int) × Int)) (x_1 : Int × (List Int) × Int) : Option Bool :=
  (M.slices_ContainsFunc_impl_Item_impl_Item__impl_hasItem_1 list_0 (x_1.1, x_1.2.1, x_1.2.2)).bind fun r3 =>
  some r3

noncomputable def M.impl_putChange_entry (c_0 : (Int × (List Int) × Int)) : Option ((Int × (Int × (List Int) × Int))) :=
  (M.impl_copyItem (c_0.1, c_0.2.1, c_0.2.2)).bind fun r6 =>
  some (1, (r6.1, r6.2.1, r6.2.2))

noncomputable def M.impl_LogBetween (a_0 : List (Int × (List Int) × Int)) (b_1 : List (Int × (List Int) × Int)) : Option ((List (Int × (Int × (List Int) × Int)))) :=
  Option.bind ((M.impl_ValidStore a_0).bind fun r2 =>
  (bif !r2 then
  some true
 else
  (M.impl_ValidStore b_1).bind fun r7 =>
  some (!r7))) fun o1 =>
  (bif o1 then
  some []
 else
  Option.bind (loopM (fun (s16 : (List (Int × (Int × (List Int) × Int))) × (Int)) => (bif decide (s16.2 < (a_0.length : Int)) then
  Option.bind ((gidx a_0 s16.2).bind fun x26 =>
  (M.impl_placeOf b_1 x26.1).bind fun r40 =>
  (bif !r40.2 then
  (M.impl_dropChange_entry x26.1).bind fun r46 =>
  (gapp s16.1 ([(r46.1, (r46.2.1, ([] : List Int), r46.2.2.2))] : List (Int × (Int × (List Int) × Int)))).bind fun xs54 =>
  some xs54
 else
  some s16.1)) fun o25 =>
  some (.inl (o25, w64 (s16.2 + 1)))
 else
  some (.inr s16.1))) ([], 0)) fun o15 =>
  Option.bind (loopM (fun (s72 : (List (Int × (Int × (List Int) × Int))) × (Int)) => (bif decide (s72.2 < (b_1.length : Int)) then
  Option.bind ((gidx b_1 s72.2).bind fun x80 =>
  (M.impl_hasItem a_0 (x80.1, x80.2.1, x80.2.2)).bind fun r94 =>
  (bif !r94 then
  (M.impl_putChange_entry (x80.1, x80.2.1, x80.2.2)).bind fun r100 =>
  (gapp s72.1 ([(r100.1, (r100.2.1, r100.2.2.1, r100.2.2.2))] : List (Int × (Int × (List Int) × Int)))).bind fun xs110 =>
  some xs110
 else
  some s72.1)) fun o79 =>
  some (.inl (o79, w64 (s72.2 + 1)))
 else
  some (.inr s72.1))) (o15, 0)) fun o71 =>
  some o71)

noncomputable def M.impl_onlyKey (x_0 : Int × (List Int) × Int) : Option Bool :=
  (M.impl_validKey x_0.1).bind fun r4 =>
  (bif r4 then
  (bif (x_0.2.1.length : Int) == 0 then
  some (x_0.2.2 == 0)
 else
  some false)
 else
  some false)

noncomputable def M.impl_changeOf (e_0 : Int × (Int × (List Int) × Int)) : Option ((If2 Int ((Int × (List Int) × Int))) × Bool) :=
  Option.bind ((bif e_0.1 == 1 then
  (M.impl_validItem (e_0.2.1, e_0.2.2.1, e_0.2.2.2)).bind fun r7 =>
  some r7
 else
  some false)) fun o3 =>
  (bif o3 then
  some ((If2.mk 2 0 (e_0.2.1, e_0.2.2.1, e_0.2.2.2)), true)
 else
  Option.bind ((bif e_0.1 == 2 then
  (M.impl_onlyKey (e_0.2.1, e_0.2.2.1, e_0.2.2.2)).bind fun r18 =>
  some r18
 else
  some false)) fun o14 =>
  (bif o14 then
  some ((If2.mk 1 e_0.2.1 (0, [], 0)), true)
 else
  some ((If2.mk 0 0 (0, [], 0)), false)))

noncomputable def M.impl_changesOf (log_0 : List (Int × (Int × (List Int) × Int))) : Option ((List (If2 Int ((Int × (List Int) × Int)))) × Bool) :=
  (bif decide (32 < (log_0.length : Int)) then
  some ([], false)
 else
  (gmake (log_0.length : Int) ((If2.mk 0 0 (0, [], 0)) : If2 Int ((Int × (List Int) × Int)))).bind fun xs2 =>
  Option.bind (loopM (fun (s9 : (List (If2 Int ((Int × (List Int) × Int)))) × (Int)) => (bif decide (s9.2 < (log_0.length : Int)) then
  (gidx log_0 s9.2).bind fun x14 =>
  (M.impl_changeOf (x14.1, (x14.2.1, x14.2.2.1, x14.2.2.2))).bind fun r28 =>
  (bif !r28.2 then
  some (.inr (.inr ([], false)))
 else
  (gidx s9.1 s9.2).bind fun x35 =>
  some (.inl ((s9.1.set s9.2.toNat (If2.mk r28.1.1 r28.1.2.1 (r28.1.2.2.1, r28.1.2.2.2.1, r28.1.2.2.2.2))), w64 (s9.2 + 1))))
 else
  some (.inr (.inl s9.1)))) (xs2, 0)) (selim (fun t44 => some (t44, true))
   (fun t48 => some (t48.1, t48.2))))

noncomputable def M.impl_dropChange_apply (c_0 : Int) (list_1 : List (Int × (List Int) × Int)) : Option ((List (Int × (List Int) × Int)) × Bool) :=
  (M.impl_DropItem list_1 c_0).bind fun r4 =>
  some (r4.1, r4.2)

noncomputable def M.impl_putChange_apply (c_0 : (Int × (List Int) × Int)) (list_1 : List (Int × (List Int) × Int)) : Option ((List (Int × (List Int) × Int)) × Bool) :=
  (M.impl_PutItem list_1 (c_0.1, c_0.2.1, c_0.2.2)).bind fun r4 =>
  some (r4.1, r4.2)

noncomputable def M.impl_ReplayLog (list_0 : List (Int × (List Int) × Int)) (log_1 : List (Int × (Int × (List Int) × Int))) : Option ((List (Int × (List Int) × Int)) × Int) :=
  (M.impl_changesOf log_1).bind fun r1 =>
  Option.bind ((bif !r1.2 then
  some true
 else
  (M.impl_ValidStore list_0).bind fun r9 =>
  some (!r9))) fun o7 =>
  (bif o7 then
  some ([], -1)
 else
  (M.impl_copyItems list_0).bind fun r15 =>
  Option.bind (loopM (fun (s23 : (List (Int × (List Int) × Int)) × (Int)) => (bif decide (s23.2 < (r1.1.length : Int)) then
  (gidx r1.1 s23.2).bind fun x28 =>
  Option.bind ((bif x28.1 == 1 then
  (M.impl_dropChange_apply x28.2.1 s23.1).bind fun r45 =>
  some (r45.1, r45.2)
 else
  (bif x28.1 == 2 then
  (M.impl_putChange_apply (x28.2.2.1, x28.2.2.2.1, x28.2.2.2.2) s23.1).bind fun r54 =>
  some (r54.1, r54.2)
 else
  none))) fun o39 =>
  (bif !o39.2 then
  some (.inr (.inr (s23.1, s23.2)))
 else
  some (.inl (o39.1, w64 (s23.2 + 1))))
 else
  some (.inr (.inl s23.1)))) (r15, 0)) (selim (fun t65 => some (t65, (r1.1.length : Int)))
   (fun t71 => some (t71.1, t71.2))))

end Go.Vs

namespace Go.Vs

noncomputable def M.slices_IsSorted_int_int (x_0 : List Int) : Option Bool :=
  Option.bind (loopM (fun (s2 : (Int)) => (bif decide (0 < s2) then
  (gidx x_0 s2).bind fun x5 =>
  (gidx x_0 (w64 (s2 - 1))).bind fun x11 =>
  (M.cmp_Less_int x5 x11).bind fun r19 =>
  (bif r19 then
  some (.inr (.inr false))
 else
  some (.inl (w64 (s2 - 1))))
 else
  some (.inr (.inl ())))) (w64 ((x_0.length : Int) - 1))) (selim (fun t24 => some true)
   (fun t26 => some t26))

noncomputable def M.impl_validTimes (times_0 : List Int) : Option Bool :=
  Option.bind (loopM (fun (s2 : (Int)) => (bif decide (s2 < (times_0.length : Int)) then
  (gidx times_0 s2).bind fun x5 =>
  Option.bind ((bif decide (x5 < 1) then
  some true
 else
  some (decide (1000 < x5)))) fun o11 =>
  (bif o11 then
  some (.inr (.inr false))
 else
  some (.inl (w64 (s2 + 1))))
 else
  some (.inr (.inl ())))) 0) (selim (fun t15 => (M.slices_IsSorted_int_int times_0).bind fun r17 =>
  some r17)
   (fun t21 => some t21))

noncomputable def M.impl_ValidHistory (h_0 : (List (Int × (Int × (List Int) × Int))) × (List Int)) : Option Bool :=
  Option.bind ((bif (h_0.2.length : Int) != (h_0.1.length : Int) then
  some true
 else
  (M.impl_validTimes h_0.2).bind fun r8 =>
  some (!r8))) fun o3 =>
  (bif o3 then
  some false
 else
  (M.impl_ReplayLog ([] : List (Int × (List Int) × Int)) h_0.1).bind fun r15 =>
  some (r15.2 == (h_0.1.length : Int)))

noncomputable def M.impl_validMoment (t_0 : Int) : Option Bool :=
  (bif decide (0 ≤ t_0) then
  some (decide (t_0 ≤ 1000))
 else
  some false)

noncomputable def M.impl_version_node (v_0 : Vr (Int × (List Int) × Int)) : Option (((Po (Int × (List Int) × Int)) × ((Vr (Int × (List Int) × Int)) × (Vr (Int × (List Int) × Int))))) :=
  (bif v_0.isNil then
  some (Po.nil, (Vr.nil, Vr.nil))
 else
  (Vr.get v_0).bind fun x5 =>
  some (x5.1, (x5.2.1, x5.2.2)))

noncomputable def M.impl_version_with_F (rec : (Vr (Int × (List Int) × Int)) → (Int) → (Int) → (Po (Int × (List Int) × Int)) → Option ((Vr (Int × (List Int) × Int)))) (v_0 : Vr (Int × (List Int) × Int)) (key_1 : Int) (bits_2 : Int) (x_3 : Po (Int × (List Int) × Int)) : Option ((Vr (Int × (List Int) × Int))) :=
  (M.impl_version_node v_0).bind fun r1 =>
  Option.bind ((bif bits_2 == 0 then
  some (x_3, (r1.2.1, r1.2.2))
 else
  (gsh (w64 (bits_2 - 1)) (gshr .i64 key_1 (w64 (bits_2 - 1)))).bind fun q14 =>
  (gsel2 (gand q14 1) r1.2.1 r1.2.2).bind fun x16 =>
  (rec x16 key_1 (w64 (bits_2 - 1)) x_3).bind fun r21 =>
  (gsel2 (gand q14 1) r1.2.1 r1.2.2).bind fun x26 =>
  some (r1.1, ((bsel (gand q14 1) r21 r1.2.1), (bsel (gand q14 1) r1.2.2 r21))))) fun o11 =>
  some (Vr.mk (o11.1, (o11.2.1, o11.2.2)))
noncomputable def M.impl_version_with : Nat → (Vr (Int × (List Int) × Int)) → (Int) → (Int) → (Po (Int × (List Int) × Int)) → Option ((Vr (Int × (List Int) × Int)))
  | 0 => fun _ _ _ _ => none
  | fuel + 1 => M.impl_version_with_F (M.impl_version_with fuel)

noncomputable def M.impl_version_after (v_0 : Vr (Int × (List Int) × Int)) (e_1 : Int × (Int × (List Int) × Int)) : Option ((Vr (Int × (List Int) × Int))) :=
  (bif e_1.1 == 2 then
  (M.impl_version_with 100 v_0 e_1.2.1 7 (Po.nil : Po (Int × (List Int) × Int))).bind fun r6 =>
  some r6
 else
  (M.impl_version_with 100 v_0 e_1.2.1 7 (Po.to (e_1.2.1, e_1.2.2.1, e_1.2.2.2))).bind fun r15 =>
  some r15)

noncomputable def M.impl_History_versions (h_0 : (List (Int × (Int × (List Int) × Int))) × (List Int)) : Option ((List (Vr (Int × (List Int) × Int)))) :=
  Option.bind (loopM (fun (s7 : (List (Vr (Int × (List Int) × Int))) × (Int)) => (bif decide (s7.2 < (h_0.1.length : Int)) then
  (gidx h_0.1 s7.2).bind fun x12 =>
  (gidx s7.1 s7.2).bind fun x25 =>
  (M.impl_version_after x25 (x12.1, (x12.2.1, x12.2.2.1, x12.2.2.2))).bind fun r35 =>
  (gapp s7.1 ([r35] : List (Vr (Int × (List Int) × Int)))).bind fun xs41 =>
  some (.inl (xs41, w64 (s7.2 + 1)))
 else
  some (.inr s7.1))) (([Vr.nil] : List (Vr (Int × (List Int) × Int))), 0)) fun o6 =>
  some o6

noncomputable def M.slices_isNaN_int (x_0 : Int) : Option Bool :=
  some (x_0 != x_0)

noncomputable def M.slices_BinarySearch_int_int (x_0 : List Int) (target_1 : Int) : Option (Int × Bool) :=
  Option.bind (loopM (fun (s2 : (Int) × (Int)) => (bif decide (s2.1 < s2.2) then
  (gidx x_0 (wk .i64 (gshr .u64 (wk .u64 (w64 (s2.1 + s2.2))) 1))).bind fun x5 =>
  (M.cmp_Less_int x5 target_1).bind fun r11 =>
  (bif r11 then
  some (.inl (w64 ((wk .i64 (gshr .u64 (wk .u64 (w64 (s2.1 + s2.2))) 1)) + 1), s2.2))
 else
  some (.inl (s2.1, wk .i64 (gshr .u64 (wk .u64 (w64 (s2.1 + s2.2))) 1))))
 else
  some (.inr s2.1))) (0, (x_0.length : Int))) fun o1 =>
  (bif decide (o1 < (x_0.length : Int)) then
  (gidx x_0 o1).bind fun x18 =>
  (bif x18 == target_1 then
  some (o1, true)
 else
  (gidx x_0 o1).bind fun x25 =>
  (M.slices_isNaN_int x25).bind fun r31 =>
  (bif r31 then
  (M.slices_isNaN_int target_1).bind fun r36 =>
  some (o1, r36)
 else
  some (o1, false)))
 else
  some (o1, false))

noncomputable def M.impl_History_entriesUntil (h_0 : (List (Int × (Int × (List Int) × Int))) × (List Int)) (t_1 : Int) : Option Int :=
  (M.slices_BinarySearch_int_int h_0.2 (w64 (t_1 + 1))).bind fun r4 =>
  some r4.1

noncomputable def M.impl_version_appendTo_F (rec : (Vr (Int × (List Int) × Int)) → (List (Int × (List Int) × Int)) → Option ((List (Int × (List Int) × Int)))) (v_0 : Vr (Int × (List Int) × Int)) (list_1 : List (Int × (List Int) × Int)) : Option ((List (Int × (List Int) × Int))) :=
  (bif v_0.isNil then
  some list_1
 else
  (Vr.get v_0).bind fun x2 =>
  (bif !x2.1.isNil then
  (Vr.get v_0).bind fun x12 =>
  (Po.get x12.1).bind fun x21 =>
  (M.impl_copyItem (x21.1, x21.2.1, x21.2.2)).bind fun r31 =>
  (gapp list_1 ([(r31.1, r31.2.1, r31.2.2)] : List (Int × (List Int) × Int))).bind fun xs41 =>
  some xs41
 else
  (Vr.get v_0).bind fun x46 =>
  (Vr.get v_0).bind fun x55 =>
  (rec x55.2.1 list_1).bind fun r64 =>
  (rec x46.2.2 r64).bind fun r70 =>
  some r70))
noncomputable def M.impl_version_appendTo : Nat → (Vr (Int × (List Int) × Int)) → (List (Int × (List Int) × Int)) → Option ((List (Int × (List Int) × Int)))
  | 0 => fun _ _ => none
  | fuel + 1 => M.impl_version_appendTo_F (M.impl_version_appendTo fuel)

noncomputable def M.impl_StoreAt (h_0 : (List (Int × (Int × (List Int) × Int))) × (List Int)) (t_1 : Int) : Option ((List (Int × (List Int) × Int))) :=
  Option.bind ((M.impl_ValidHistory (h_0.1, h_0.2)).bind fun r5 =>
  (bif !r5 then
  some true
 else
  (M.impl_validMoment t_1).bind fun r10 =>
  some (!r10))) fun o3 =>
  (bif o3 then
  some []
 else
  (M.impl_History_versions (h_0.1, h_0.2)).bind fun r17 =>
  (M.impl_History_entriesUntil (h_0.1, h_0.2) t_1).bind fun r24 =>
  (gidx r17 r24).bind fun x28 =>
  (M.impl_version_appendTo 100 x28 ([] : List (Int × (List Int) × Int))).bind fun r37 =>
  some r37)

noncomputable def M.impl_appendChanged_F (rec : (List Int) → (Vr (Int × (List Int) × Int)) → (Vr (Int × (List Int) × Int)) → Option ((List Int))) (keys_0 : List Int) (v_1 : Vr (Int × (List Int) × Int)) (w_2 : Vr (Int × (List Int) × Int)) : Option ((List Int)) :=
  (gboth v_1.isNil v_1 w_2
  (some keys_0)
  ((M.impl_version_node v_1).bind fun r2 =>
  (M.impl_version_node w_2).bind fun r9 =>
  Option.bind (loopM (fun (s23 : (List Int) × (Int)) => (bif decide (s23.2 < 2) then
  (gsel2 s23.2 r2.2.1 r2.2.2).bind fun x28 =>
  (gsel2 s23.2 r9.2.1 r9.2.2).bind fun x33 =>
  (rec s23.1 x28 x33).bind fun r40 =>
  some (.inl (r40, w64 (s23.2 + 1)))
 else
  some (.inr s23.1))) (keys_0, 0)) fun o22 =>
  Option.bind ((bif !r2.1.isNil then
  (bif r9.1.isNil then
  some true
 else
  (Po.get r2.1).bind fun x57 =>
  (Po.get r9.1).bind fun x68 =>
  (M.impl_equalItems (x57.1, x57.2.1, x57.2.2) (x68.1, x68.2.1, x68.2.2)).bind fun r80 =>
  some (!r80))
 else
  some false)) fun o49 =>
  (bif o49 then
  (Po.get r2.1).bind fun x89 =>
  (gapp o22 ([x89.1] : List Int)).bind fun xs97 =>
  some xs97
 else
  Option.bind ((bif r2.1.isNil then
  some (!r9.1.isNil)
 else
  some false)) fun o102 =>
  (bif o102 then
  (Po.get r9.1).bind fun x109 =>
  (gapp o22 ([x109.1] : List Int)).bind fun xs117 =>
  some xs117
 else
  some o22))))
noncomputable def M.impl_appendChanged : Nat → (List Int) → (Vr (Int × (List Int) × Int)) → (Vr (Int × (List Int) × Int)) → Option ((List Int))
  | 0 => fun _ _ _ => none
  | fuel + 1 => M.impl_appendChanged_F (M.impl_appendChanged fuel)

noncomputable def M.impl_ChangedKeys (h_0 : (List (Int × (Int × (List Int) × Int))) × (List Int)) (a_1 : Int) (b_2 : Int) : Option ((List Int)) :=
  Option.bind ((M.impl_ValidHistory (h_0.1, h_0.2)).bind fun r5 =>
  (bif !r5 then
  some true
 else
  (M.impl_validMoment a_1).bind fun r10 =>
  (bif !r10 then
  some true
 else
  (M.impl_validMoment b_2).bind fun r15 =>
  some (!r15)))) fun o3 =>
  (bif o3 then
  some []
 else
  (M.impl_History_versions (h_0.1, h_0.2)).bind fun r22 =>
  (M.impl_History_entriesUntil (h_0.1, h_0.2) a_1).bind fun r29 =>
  (gidx r22 r29).bind fun x32 =>
  (M.impl_History_entriesUntil (h_0.1, h_0.2) b_2).bind fun r42 =>
  (gidx r22 r42).bind fun x45 =>
  (M.impl_appendChanged 100 ([] : List Int) x32 x45).bind fun r55 =>
  some r55)

noncomputable def M.laws_FnStoreAtLog (code_0 : List UInt8) : Option Bool :=
  (bif decide (1048576 < (code_0.length : Int)) then
  some true
 else
  (M.spec_DrawChangedKeys code_0).bind fun r2 =>
  (M.impl_ChangedKeys (r2.1.1, r2.1.2) r2.2.1 r2.2.2).bind fun r14 =>
  Option.bind ((M.spec_ChangedKeys (r2.1.1, r2.1.2) r2.2.1 r2.2.2).bind fun r22 =>
  (M.laws_equalInts r14 r22).bind fun r30 =>
  (bif !r30 then
  some true
 else
  (M.impl_ValidHistory (r2.1.1, r2.1.2)).bind fun r36 =>
  (bif !r36 then
  some true
 else
  (bif decide (r2.2.1 < 0) then
  some true
 else
  (bif decide (1000 < r2.2.1) then
  some true
 else
  (bif decide (r2.2.2 < 0) then
  some true
 else
  some (decide (1000 < r2.2.2)))))))) fun o20 =>
  (bif o20 then
  (M.spec_ChangedKeys (r2.1.1, r2.1.2) r2.2.1 r2.2.2).bind fun r47 =>
  (M.laws_equalInts r14 r47).bind fun r57 =>
  some r57
 else
  (M.impl_StoreAt (r2.1.1, r2.1.2) r2.2.1).bind fun r62 =>
  (M.impl_StoreAt (r2.1.1, r2.1.2) r2.2.2).bind fun r69 =>
  (M.impl_LogBetween r62 r69).bind fun r75 =>
  (M.impl_ReplayLog r62 r75).bind fun r85 =>
  (bif r85.2 == (r14.length : Int) then
  (M.laws_equalItems r85.1 r69).bind fun r94 =>
  some r94
 else
  some false)))

end Go.Vs
