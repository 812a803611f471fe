/- What the functions compute. -/
import Derived.Test.YtanbdmdbfjonhaaGreatFilterNearestCountEng1
import Derived.Test.YtanbdmdbfjonhaaGreatFilterNearestCountEng2
import Derived.Lib.Split
import Derived.Lib.Atoi
import Derived.Lib.Join
import Derived.Lib.ItoaNum
set_option linter.unusedVariables false
set_option linter.unusedSimpArgs false
namespace Go.Vs

noncomputable def M.spec_reader_pick (r_0 : (List UInt8) × Int) (n_1 : Int) : Option (Int × ((List UInt8) × Int)) :=
  Option.bind ((bif decide (n_1 < 1) then
  some true
 else
  some ((r_0.1.length : Int) == 0))) fun o5 =>
  (bif o5 then
  some (0, (r_0.1, w64 (r_0.2 + 1)))
 else
  (bif decide ((w64 ((w64 (r_0.2 + 1)) - 1)) < (r_0.1.length : Int)) then
  (gidx r_0.1 (w64 ((w64 (r_0.2 + 1)) - 1))).bind fun x12 =>
  (grem (w64 (x12.toNat : Int)) n_1).bind fun q17 =>
  some (q17, (r_0.1, w64 (r_0.2 + 1)))
 else
  (grem (w64 ((w64 (r_0.2 + 1)) - 1)) (r_0.1.length : Int)).bind fun q19 =>
  (gidx r_0.1 q19).bind fun x21 =>
  (grem (w64 ((w64 ((w64 ((w64 (r_0.2 + 1)) - 1)) * 7)) + 3)) (r_0.1.length : Int)).bind fun q26 =>
  (gidx r_0.1 q26).bind fun x28 =>
  (gquo (w64 ((w64 (r_0.2 + 1)) - 1)) (r_0.1.length : Int)).bind fun q33 =>
  (grem (gxor (w64 ((w64 ((w64 ((w64 ((w64 (x21.toNat : Int)) * 131)) + (w64 ((w64 (x28.toNat : Int)) * 1117)))) + (w64 ((w64 ((w64 (r_0.2 + 1)) - 1)) * 29)))) + (w64 (q33 * 53)))) (w64 ((w64 ((w64 ((w64 ((w64 ((w64 (x21.toNat : Int)) * 131)) + (w64 ((w64 (x28.toNat : Int)) * 1117)))) + (w64 ((w64 ((w64 (r_0.2 + 1)) - 1)) * 29)))) + (w64 (q33 * 53)))).tdiv 64))) n_1).bind fun q36 =>
  some (q36, (r_0.1, w64 (r_0.2 + 1)))))

noncomputable def M.spec_reader_one (r_0 : (List UInt8) × Int) (list_1 : List Int) : Option (Int × ((List UInt8) × Int)) :=
  (M.spec_reader_pick (r_0.1, r_0.2) (list_1.length : Int)).bind fun r1 =>
  (gidx list_1 r1.1).bind fun x9 =>
  some (x9, (r1.2.1, r1.2.2))

noncomputable def M.spec_someCoord (r_0 : (List UInt8) × Int) : Option (Int × ((List UInt8) × Int)) :=
  (M.spec_reader_pick (r_0.1, r_0.2) 201).bind fun r1 =>
  (M.spec_reader_pick (r1.2.1, r1.2.2) 21).bind fun r9 =>
  (M.spec_reader_one (r9.2.1, r9.2.2) ([0, 1, -1, 5, -7, 10, 3, 100, -100, w64 (r1.1 - 100), w64 (r9.1 - 10)] : List Int)).bind fun r27 =>
  some (r27.1, (r27.2.1, r27.2.2))

noncomputable def M.spec_someVector (r_0 : (List UInt8) × Int) : Option ((List Int) × ((List UInt8) × Int)) :=
  Option.bind (loopM (fun (s7 : ((List UInt8) × (Int)) × (List Int) × (Int)) => (bif decide (s7.2.2 < 4) then
  (M.spec_someCoord (s7.1.1, s7.1.2)).bind fun r18 =>
  (gapp s7.2.1 ([r18.1] : List Int)).bind fun xs33 =>
  some (.inl ((r18.2.1, r18.2.2), xs33, w64 (s7.2.2 + 1)))
 else
  some (.inr ((s7.1.1, s7.1.2), s7.2.1)))) ((r_0.1, r_0.2), ([] : List Int), 0)) fun o6 =>
  some (o6.2, (o6.1.1, o6.1.2))

noncomputable def M.spec_copyInts (list_0 : List Int) : Option ((List Int)) :=
  (gapp ([] : List Int) list_0).bind fun xs6 =>
  some xs6

noncomputable def M.spec_reader_spoil (r_0 : (List UInt8) × Int) (list_1 : List Int) (n_2 : Int) : Option ((List Int) × ((List UInt8) × Int)) :=
  (M.spec_copyInts list_1).bind fun r1 =>
  (M.spec_reader_pick (r_0.1, r_0.2) 20).bind fun r8 =>
  Option.bind ((bif r8.1 == 0 then
  (gapp r1 ([n_2] : List Int)).bind fun xs25 =>
  some ((r8.2.1, r8.2.2), xs25)
 else
  (bif r8.1 == 1 then
  (bif decide (0 < (r1.length : Int)) then
  (gslice r1 1 (r1.length : Int)).bind fun xs36 =>
  some ((r8.2.1, r8.2.2), xs36)
 else
  some ((r8.2.1, r8.2.2), r1))
 else
  (bif r8.1 == 2 then
  (bif decide (0 < (r1.length : Int)) then
  (M.spec_reader_pick (r8.2.1, r8.2.2) (r1.length : Int)).bind fun r44 =>
  (M.spec_reader_one (r44.2.1, r44.2.2) ([-1, n_2, 0, 1] : List Int)).bind fun r64 =>
  (gidx r1 r44.1).bind fun x73 =>
  some ((r64.2.1, r64.2.2), (r1.set r44.1.toNat r64.1))
 else
  some ((r8.2.1, r8.2.2), r1))
 else
  some ((r8.2.1, r8.2.2), r1))))) fun o17 =>
  some (o17.2, (o17.1.1, o17.1.2))

noncomputable def M.spec_anyVector (r_0 : (List UInt8) × Int) : Option ((List Int) × ((List UInt8) × Int)) :=
  (M.spec_reader_pick (r_0.1, r_0.2) 10).bind fun r1 =>
  (bif r1.1 == 0 then
  (M.spec_someVector (r1.2.1, r1.2.2)).bind fun r10 =>
  (M.spec_reader_spoil (r10.2.1, r10.2.2) r10.1 101).bind fun r26 =>
  some (r26.1, (r26.2.1, r26.2.2))
 else
  (M.spec_someVector (r1.2.1, r1.2.2)).bind fun r37 =>
  some (r37.1, (r37.2.1, r37.2.2)))

noncomputable def M.spec_newReader (code_0 : List UInt8) : Option (((List UInt8) × Int)) :=
  Option.bind ((bif decide (2000 < (code_0.length : Int)) then
  (gslice code_0 0 2000).bind fun xs3 =>
  some xs3
 else
  some code_0)) fun o1 =>
  some (o1, 0)

noncomputable def M.impl_validCoords (coords_0 : List Int) : Option Bool :=
  Option.bind (loopM (fun (s2 : (Int)) => (bif decide (s2 < (coords_0.length : Int)) then
  (gidx coords_0 s2).bind fun x5 =>
  Option.bind ((bif decide (x5 < (-100)) then
  some true
 else
  some (decide (100 < x5)))) fun o11 =>
  (bif o11 then
  some (.inr (.inr false))
 else
  some (.inl (w64 (s2 + 1))))
 else
  some (.inr (.inl ())))) 0) (selim (fun t15 => some true)
   (fun t17 => some t17))

noncomputable def M.impl_ValidVector (v_0 : List Int) : Option Bool :=
  (bif (v_0.length : Int) == 4 then
  (M.impl_validCoords v_0).bind fun r2 =>
  some r2
 else
  some false)

noncomputable def M.spec_inRange (n_0 : Int) (low_1 : Int) (high_2 : Int) : Option Bool :=
  (bif decide (low_1 ≤ n_0) then
  some (decide (n_0 ≤ high_2))
 else
  some false)

noncomputable def M.spec_allIn (list_0 : List Int) (low_1 : Int) (high_2 : Int) : Option Bool :=
  Option.bind (loopM (fun (s2 : (Int)) => (bif decide (s2 < (list_0.length : Int)) then
  (gidx list_0 s2).bind fun x7 =>
  (M.spec_inRange x7 low_1 high_2).bind fun r12 =>
  (bif !r12 then
  some (.inr (.inr false))
 else
  some (.inl (w64 (s2 + 1))))
 else
  some (.inr (.inl ())))) 0) (selim (fun t17 => some true)
   (fun t19 => some t19))

noncomputable def M.spec_isVector (v_0 : List Int) : Option Bool :=
  (bif (v_0.length : Int) == 4 then
  (M.spec_allIn v_0 (-100) 100).bind fun r2 =>
  some r2
 else
  some false)

noncomputable def M.spec_anyKind (r_0 : (List UInt8) × Int) : Option (Int × ((List UInt8) × Int)) :=
  (M.spec_reader_one (r_0.1, r_0.2) ([1, 2, 3, 4, 1, 2, 3, 4, 1, 2, 0, 5] : List Int)).bind fun r11 =>
  some (r11.1, (r11.2.1, r11.2.2))

noncomputable def M.impl_distanceOf (kind_0 : Int) (gaps_1 : List Int) : Option Int :=
  Option.bind (loopM (fun (s8 : (Int) × (Int)) => (bif decide (s8.2 < 4) then
  Option.bind ((gidx gaps_1 s8.2).bind fun x13 =>
  (bif kind_0 == 1 then
  some (.inl (w64 (s8.1 + x13)))
 else
  (bif kind_0 == 2 then
  some (.inl (max s8.1 x13))
 else
  (bif kind_0 == 3 then
  some (.inl (w64 (s8.1 + (w64 (x13 * x13)))))
 else
  (bif kind_0 == 4 then
  some (.inl (w64 (s8.1 + (min x13 1))))
 else
  some (.inr (-1))))))) (selim (fun t19 => some (.inl (t19, w64 (s8.2 + 1))))
   (fun t21 => some (.inr (.inr t21))))
 else
  some (.inr (.inl s8.1)))) (0, 0)) (selim (fun t23 => some t23)
   (fun t25 => some t25))

noncomputable def M.impl_gapsOf (a_0 : List Int) (b_1 : List Int) : Option ((List Int)) :=
  Option.bind (loopM (fun (s32 : (List Int) × (Int)) => (bif decide (s32.2 < 4) then
  (gidx a_0 s32.2).bind fun x47 =>
  (gidx b_1 s32.2).bind fun x50 =>
  (gidx b_1 s32.2).bind fun x53 =>
  (gidx a_0 s32.2).bind fun x56 =>
  (gidx s32.1 s32.2).bind fun x60 =>
  some (.inl ((s32.1.set s32.2.toNat (max (w64 (x47 - x50)) (w64 (x53 - x56)))), w64 (s32.2 + 1)))
 else
  some (.inr s32.1))) ((List.replicate 4 0), 0)) fun o31 =>
  some o31

noncomputable def M.impl_Distance (kind_0 : Int) (a_1 : List Int) (b_2 : List Int) : Option Int :=
  Option.bind ((M.impl_ValidVector a_1).bind fun r2 =>
  (bif !r2 then
  some true
 else
  (M.impl_ValidVector b_2).bind fun r7 =>
  some (!r7))) fun o1 =>
  (bif o1 then
  some (-1)
 else
  (garr 4 a_1).bind fun xs15 =>
  (garr 4 b_2).bind fun xs22 =>
  (M.impl_gapsOf (List.take 4 a_1) (List.take 4 b_2)).bind fun r29 =>
  (M.impl_distanceOf kind_0 r29).bind fun r33 =>
  some r33)

noncomputable def M.spec_validKind (kind_0 : Int) : Option Bool :=
  (M.spec_inRange kind_0 1 4).bind fun r1 =>
  some r1

noncomputable def M.spec_size (n_0 : Int) : Option Int :=
  some (max n_0 (w64 (0 - n_0)))

noncomputable def M.spec_toInt (b_0 : Bool) : Option Int :=
  (bif b_0 then
  some 1
 else
  some 0)

noncomputable def M.spec_dist (kind_0 : Int) (a_1 : List Int) (b_2 : List Int) : Option Int :=
  Option.bind (loopM (fun (s2 : (Int) × (Int)) => (bif decide (s2.2 < (a_1.length : Int)) then
  Option.bind ((gidx a_1 s2.2).bind fun x9 =>
  (gidx b_2 s2.2).bind fun x14 =>
  (M.spec_size (w64 (x9 - x14))).bind fun r20 =>
  (bif kind_0 == 1 then
  some (w64 (s2.1 + r20))
 else
  (bif kind_0 == 2 then
  some (max s2.1 r20)
 else
  (bif kind_0 == 3 then
  some (w64 (s2.1 + (w64 (r20 * r20))))
 else
  (M.spec_toInt (decide (0 < r20))).bind fun r27 =>
  some (w64 (s2.1 + r27)))))) fun o8 =>
  some (.inl (o8, w64 (s2.2 + 1)))
 else
  some (.inr s2.1))) (0, 0)) fun o1 =>
  some o1

noncomputable def M.spec_someItem (r_0 : (List UInt8) × Int) : Option ((Int × (List Int) × Int) × ((List UInt8) × Int)) :=
  (M.spec_reader_pick (r_0.1, r_0.2) 30).bind fun r7 =>
  (M.spec_someVector (r7.2.1, r7.2.2)).bind fun r16 =>
  (M.spec_reader_pick (r16.2.1, r16.2.2) 16).bind fun r29 =>
  some ((w64 (1 + r7.1), r16.1, r29.1), (r29.2.1, r29.2.2))

noncomputable def M.spec_anyItem (r_0 : (List UInt8) × Int) : Option ((Int × (List Int) × Int) × ((List UInt8) × Int)) :=
  (M.spec_someItem (r_0.1, r_0.2)).bind fun r7 =>
  (M.spec_reader_pick (r7.2.1, r7.2.2) 16).bind fun r30 =>
  Option.bind ((bif r30.1 == 0 then
  (M.spec_reader_one (r30.2.1, r30.2.2) ([0, 99, 100] : List Int)).bind fun r54 =>
  some ((r54.2.1, r54.2.2), (r54.1, r7.1.2.1, r7.1.2.2))
 else
  (bif r30.1 == 1 then
  (M.spec_anyVector (r30.2.1, r30.2.2)).bind fun r69 =>
  some ((r69.2.1, r69.2.2), (r7.1.1, r69.1, r7.1.2.2))
 else
  (bif r30.1 == 2 then
  (M.spec_reader_one (r30.2.1, r30.2.2) ([-1, 16] : List Int)).bind fun r106 =>
  some ((r106.2.1, r106.2.2), (r7.1.1, r7.1.2.1, r106.1))
 else
  some ((r30.2.1, r30.2.2), (r7.1.1, r7.1.2.1, r7.1.2.2)))))) fun o40 =>
  some ((o40.2.1, o40.2.2.1, o40.2.2.2), (o40.1.1, o40.1.2))

noncomputable def M.spec_validItem (x_0 : Int × (List Int) × Int) : Option Bool :=
  (M.spec_inRange x_0.1 1 99).bind fun r7 =>
  (bif r7 then
  (M.spec_isVector x_0.2.1).bind fun r13 =>
  (bif r13 then
  (M.spec_inRange x_0.2.2 0 15).bind fun r19 =>
  some r19
 else
  some false)
 else
  some false)

noncomputable def M.spec_validStore (list_0 : List (Int × (List Int) × Int)) : Option Bool :=
  Option.bind (loopM (fun (s2 : (Int)) => (bif decide (s2 < (list_0.length : Int)) then
  Option.bind ((gidx list_0 s2).bind fun x8 =>
  (M.spec_validItem (x8.1, x8.2.1, x8.2.2)).bind fun r19 =>
  (bif !r19 then
  some true
 else
  (bif decide (0 < s2) then
  (gidx list_0 s2).bind fun x24 =>
  (gidx list_0 (w64 (s2 - 1))).bind fun x29 =>
  some (decide (x24.1 ≤ x29.1))
 else
  some false))) fun o7 =>
  (bif o7 then
  some (.inr (.inr false))
 else
  some (.inl (w64 (s2 + 1))))
 else
  some (.inr (.inl ())))) 0) (selim (fun t39 => some (decide ((list_0.length : Int) ≤ 16)))
   (fun t42 => some t42))

noncomputable def M.spec_copyItem (x_0 : Int × (List Int) × Int) : Option ((Int × (List Int) × Int)) :=
  (M.spec_copyInts x_0.2.1).bind fun r14 =>
  some (x_0.1, r14, x_0.2.2)

noncomputable def M.spec_put (list_0 : List (Int × (List Int) × Int)) (x_1 : Int × (List Int) × Int) : Option ((List (Int × (List Int) × Int))) :=
  Option.bind (loopM (fun (s14 : (List (Int × (List Int) × Int)) × (Int)) => (bif decide (s14.2 < (list_0.length : Int)) then
  Option.bind ((gidx list_0 s14.2).bind fun x26 =>
  (bif decide (x26.1 < x_1.1) then
  (gidx list_0 s14.2).bind fun x33 =>
  (M.spec_copyItem (x33.1, x33.2.1, x33.2.2)).bind fun r44 =>
  (gapp s14.1 ([(r44.1, r44.2.1, r44.2.2)] : List (Int × (List Int) × Int))).bind fun xs60 =>
  some xs60
 else
  some s14.1)) fun o25 =>
  some (.inl (o25, w64 (s14.2 + 1)))
 else
  some (.inr s14.1))) (([] : List (Int × (List Int) × Int)), 0)) fun o13 =>
  (M.spec_copyItem (x_1.1, x_1.2.1, x_1.2.2)).bind fun r87 =>
  (gapp o13 ([(r87.1, r87.2.1, r87.2.2)] : List (Int × (List Int) × Int))).bind fun xs103 =>
  Option.bind (loopM (fun (s115 : (List (Int × (List Int) × Int)) × (Int)) => (bif decide (s115.2 < (list_0.length : Int)) then
  Option.bind ((gidx list_0 s115.2).bind fun x127 =>
  (bif decide (x_1.1 < x127.1) then
  (gidx list_0 s115.2).bind fun x134 =>
  (M.spec_copyItem (x134.1, x134.2.1, x134.2.2)).bind fun r145 =>
  (gapp s115.1 ([(r145.1, r145.2.1, r145.2.2)] : List (Int × (List Int) × Int))).bind fun xs161 =>
  some xs161
 else
  some s115.1)) fun o126 =>
  some (.inl (o126, w64 (s115.2 + 1)))
 else
  some (.inr s115.1))) (xs103, 0)) fun o114 =>
  some o114

noncomputable def M.spec_PutItem (list_0 : List (Int × (List Int) × Int)) (x_1 : Int × (List Int) × Int) : Option ((List (Int × (List Int) × Int)) × Bool) :=
  Option.bind ((M.spec_validStore list_0).bind fun r8 =>
  (bif !r8 then
  some true
 else
  (M.spec_validItem (x_1.1, x_1.2.1, x_1.2.2)).bind fun r14 =>
  some (!r14))) fun o7 =>
  (bif o7 then
  some ([], false)
 else
  (M.spec_put list_0 (x_1.1, x_1.2.1, x_1.2.2)).bind fun r24 =>
  (M.spec_validStore r24).bind fun r35 =>
  (bif !r35 then
  some ([], false)
 else
  some (r24, true)))

noncomputable def M.spec_someStore (r_0 : (List UInt8) × Int) : Option ((List (Int × (List Int) × Int)) × ((List UInt8) × Int)) :=
  (M.spec_reader_one (r_0.1, r_0.2) ([4, 6, 8, 3, 1, 0, 20, 12] : List Int)).bind fun r17 =>
  Option.bind (loopM (fun (s27 : ((List UInt8) × (Int)) × (List (Int × (List Int) × Int)) × (Int)) => (bif decide (0 < s27.2.2) then
  Option.bind ((M.spec_someItem (s27.1.1, s27.1.2)).bind fun r39 =>
  (M.spec_PutItem s27.2.1 (r39.1.1, r39.1.2.1, r39.1.2.2)).bind fun r55 =>
  (bif r55.2 then
  some ((r39.2.1, r39.2.2), r55.1)
 else
  some ((r39.2.1, r39.2.2), s27.2.1))) fun o38 =>
  some (.inl ((o38.1.1, o38.1.2), o38.2, w64 (s27.2.2 - 1)))
 else
  some (.inr ((s27.1.1, s27.1.2), s27.2.1)))) ((r17.2.1, r17.2.2), ([] : List (Int × (List Int) × Int)), r17.1)) fun o26 =>
  some (o26.2, (o26.1.1, o26.1.2))

noncomputable def M.spec_anyStore (r_0 : (List UInt8) × Int) : Option ((List (Int × (List Int) × Int)) × ((List UInt8) × Int)) :=
  (M.spec_someStore (r_0.1, r_0.2)).bind fun r1 =>
  (M.spec_reader_pick (r1.2.1, r1.2.2) 20).bind fun r12 =>
  Option.bind ((bif r12.1 == 0 then
  (M.spec_anyItem (r12.2.1, r12.2.2)).bind fun r23 =>
  (gapp r1.1 ([(r23.1.1, r23.1.2.1, r23.1.2.2)] : List (Int × (List Int) × Int))).bind fun xs41 =>
  some ((r23.2.1, r23.2.2), xs41)
 else
  (bif r12.1 == 1 then
  (bif decide (0 < (r1.1.length : Int)) then
  (M.spec_reader_pick (r12.2.1, r12.2.2) (r1.1.length : Int)).bind fun r52 =>
  (M.spec_anyVector (r52.2.1, r52.2.2)).bind fun r61 =>
  (gidx r1.1 r52.1).bind fun x74 =>
  some ((r61.2.1, r61.2.2), (r1.1.set r52.1.toNat (x74.1, r61.1, x74.2.2)))
 else
  some ((r12.2.1, r12.2.2), r1.1))
 else
  some ((r12.2.1, r12.2.2), r1.1)))) fun o21 =>
  some (o21.2, (o21.1.1, o21.1.2))

noncomputable def M.impl_validKey (key_0 : Int) : Option Bool :=
  (bif decide (1 ≤ key_0) then
  some (decide (key_0 ≤ 99))
 else
  some false)

noncomputable def M.impl_validTags (tags_0 : Int) : Option Bool :=
  (bif decide (0 ≤ tags_0) then
  some (decide (tags_0 ≤ 15))
 else
  some false)

noncomputable def M.impl_validItem (x_0 : Int × (List Int) × Int) : Option Bool :=
  (M.impl_validKey x_0.1).bind fun r4 =>
  (bif r4 then
  (M.impl_ValidVector x_0.2.1).bind fun r10 =>
  (bif r10 then
  (M.impl_validTags x_0.2.2).bind fun r16 =>
  some r16
 else
  some false)
 else
  some false)

noncomputable def M.impl_ValidStore (list_0 : List (Int × (List Int) × Int)) : Option Bool :=
  (bif decide (16 < (list_0.length : Int)) then
  some false
 else
  Option.bind (loopM (fun (s3 : (Int) × (Int)) => (bif decide (s3.2 < (list_0.length : Int)) then
  (gidx list_0 s3.2).bind fun x8 =>
  Option.bind ((M.impl_validItem (x8.1, x8.2.1, x8.2.2)).bind fun r30 =>
  (bif !r30 then
  some true
 else
  some (decide (x8.1 ≤ s3.1)))) fun o29 =>
  (bif o29 then
  some (.inr (.inr false))
 else
  some (.inl (x8.1, w64 (s3.2 + 1))))
 else
  some (.inr (.inl ())))) (0, 0)) (selim (fun t41 => some true)
   (fun t43 => some t43)))

noncomputable def M.cmp_isNaN_int (x_0 : Int) : Option Bool :=
  some (x_0 != x_0)

noncomputable def M.cmp_Compare_int (x_0 : Int) (y_1 : Int) : Option Int :=
  (M.cmp_isNaN_int x_0).bind fun r1 =>
  (M.cmp_isNaN_int y_1).bind fun r5 =>
  (bif r1 then
  (bif r5 then
  some 0
 else
  some (-1))
 else
  (bif r5 then
  some 1
 else
  (bif decide (x_0 < y_1) then
  some (-1)
 else
  (bif decide (y_1 < x_0) then
  some 1
 else
  some 0))))

end Go.Vs

namespace Go.Vs

end Go.Vs

namespace Go.Vs

end Go.Vs

namespace Go.Vs

end Go.Vs

namespace Go.Vs

end Go.Vs

namespace Go.Vs

noncomputable def M.slices_Clone_int_int (s_0 : List Int) : Option ((List Int)) :=
  (gapp ([] : List Int) s_0).bind fun xs4 =>
  some xs4

noncomputable def M.impl_copyItem (x_0 : Int × (List Int) × Int) : Option ((Int × (List Int) × Int)) :=
  (M.slices_Clone_int_int x_0.2.1).bind fun r7 =>
  some (x_0.1, r7, x_0.2.2)

noncomputable def M.impl_copyItems (list_0 : List (Int × (List Int) × Int)) : Option ((List (Int × (List Int) × Int))) :=
  (gmake (list_0.length : Int) ((0, [], 0) : Int × (List Int) × Int)).bind fun xs1 =>
  Option.bind (loopM (fun (s8 : (List (Int × (List Int) × Int)) × (Int)) => (bif decide (s8.2 < (list_0.length : Int)) then
  (gidx list_0 s8.2).bind fun x13 =>
  (M.impl_copyItem (x13.1, x13.2.1, x13.2.2)).bind fun r27 =>
  (gidx s8.1 s8.2).bind fun x33 =>
  some (.inl ((s8.1.set s8.2.toNat (r27.1, r27.2.1, r27.2.2)), w64 (s8.2 + 1)))
 else
  some (.inr s8.1))) (xs1, 0)) fun o7 =>
  some o7

noncomputable def M.spec_someK (r_0 : (List UInt8) × Int) : Option (Int × ((List UInt8) × Int)) :=
  (M.spec_reader_one (r_0.1, r_0.2) ([1, 2, 3, 5, 16, 4, 0, 17] : List Int)).bind fun r5 =>
  some (r5.1, (r5.2.1, r5.2.2))

noncomputable def M.impl_validKind (kind_0 : Int) : Option Bool :=
  (bif decide (1 ≤ kind_0) then
  some (decide (kind_0 ≤ 4))
 else
  some false)

noncomputable def M.impl_validCount (k_0 : Int) : Option Bool :=
  (bif decide (1 ≤ k_0) then
  some (decide (k_0 ≤ 16))
 else
  some false)

noncomputable def M.impl_validSearch (list_0 : List (Int × (List Int) × Int)) (kind_1 : Int) (at_2 : List Int) (k_3 : Int) : Option Bool :=
  (M.impl_ValidStore list_0).bind fun r1 =>
  (bif r1 then
  (M.impl_validKind kind_1).bind fun r6 =>
  (bif r6 then
  (M.impl_ValidVector at_2).bind fun r11 =>
  (bif r11 then
  (M.impl_validCount k_3).bind fun r16 =>
  some r16
 else
  some false)
 else
  some false)
 else
  some false)

noncomputable def M.impl_hitHeap_Push__impl_Hit (h_0 : List (Int × Int)) (x_1 : Int × Int) : Option ((List (Int × Int))) :=
  (gapp h_0 ([(x_1.1, x_1.2)] : List (Int × Int))).bind fun xs3 =>
  some xs3

noncomputable def M.impl_hitHeap_Len (h_0 : List (Int × Int)) : Option Int :=
  some (h_0.length : Int)

noncomputable def M.cmp_Or_int (vals_0 : List Int) : Option Int :=
  Option.bind (loopM (fun (s2 : (Int)) => (bif decide (s2 < (vals_0.length : Int)) then
  (gidx vals_0 s2).bind fun x5 =>
  (bif x5 != 0 then
  some (.inr (.inr x5))
 else
  some (.inl (w64 (s2 + 1))))
 else
  some (.inr (.inl ())))) 0) (selim (fun t12 => some 0)
   (fun t14 => some t14))

noncomputable def M.impl_compareHits (a_0 : Int × Int) (b_1 : Int × Int) : Option Int :=
  (M.cmp_Compare_int a_0.2 b_1.2).bind fun r7 =>
  (M.cmp_Compare_int a_0.1 b_1.1).bind fun r13 =>
  (M.cmp_Or_int ([r7, r13] : List Int)).bind fun r21 =>
  some r21

noncomputable def M.impl_hitHeap_Less (h_0 : List (Int × Int)) (i_1 : Int) (j_2 : Int) : Option Bool :=
  (gidx h_0 i_1).bind fun x1 =>
  (gidx h_0 j_2).bind fun x8 =>
  (M.impl_compareHits (x1.1, x1.2) (x8.1, x8.2)).bind fun r16 =>
  some (decide (0 < r16))

noncomputable def M.impl_hitHeap_Swap (h_0 : List (Int × Int)) (i_1 : Int) (j_2 : Int) : Option ((List (Int × Int))) :=
  (gidx h_0 j_2).bind fun x1 =>
  (gidx h_0 i_1).bind fun x8 =>
  (gidx h_0 i_1).bind fun x15 =>
  (gidx (h_0.set i_1.toNat (x1.1, x1.2)) j_2).bind fun x21 =>
  some ((h_0.set i_1.toNat (x1.1, x1.2)).set j_2.toNat (x8.1, x8.2))

noncomputable def M.container_heap_up__impl_hitHeap (h_0 : List (Int × Int)) (j_1 : Int) : Option ((List (Int × Int))) :=
  Option.bind (loopM (fun (s2 : (List (Int × Int)) × (Int)) => Option.bind ((bif (w64 ((w64 (s2.2 - 1)).tdiv 2)) == s2.2 then
  some true
 else
  (M.impl_hitHeap_Less s2.1 s2.2 (w64 ((w64 (s2.2 - 1)).tdiv 2))).bind fun r8 =>
  some (!r8))) fun o6 =>
  (bif o6 then
  some (.inr s2.1)
 else
  (M.impl_hitHeap_Swap s2.1 (w64 ((w64 (s2.2 - 1)).tdiv 2)) s2.2).bind fun r14 =>
  some (.inl (r14, w64 ((w64 (s2.2 - 1)).tdiv 2))))) (h_0, j_1)) fun o1 =>
  some o1

noncomputable def M.container_heap_Push__impl_hitHeap__impl_Hit (h_0 : List (Int × Int)) (x_1 : Int × Int) : Option ((List (Int × Int))) :=
  (M.impl_hitHeap_Push__impl_Hit h_0 (x_1.1, x_1.2)).bind fun r1 =>
  (M.impl_hitHeap_Len r1).bind fun r7 =>
  (M.container_heap_up__impl_hitHeap r1 (w64 (r7 - 1))).bind fun r11 =>
  some r11

noncomputable def M.container_heap_down__impl_hitHeap (h_0 : List (Int × Int)) (i0_1 : Int) (n_2 : Int) : Option (Bool × (List (Int × Int))) :=
  Option.bind (loopM (fun (s2 : (List (Int × Int)) × (Int)) => Option.bind ((bif decide (n_2 ≤ (w64 ((w64 (2 * s2.2)) + 1))) then
  some true
 else
  some (decide ((w64 ((w64 (2 * s2.2)) + 1)) < 0)))) fun o6 =>
  (bif o6 then
  some (.inr (s2.1, s2.2))
 else
  Option.bind ((bif decide ((w64 ((w64 ((w64 (2 * s2.2)) + 1)) + 1)) < n_2) then
  (M.impl_hitHeap_Less s2.1 (w64 ((w64 ((w64 (2 * s2.2)) + 1)) + 1)) (w64 ((w64 (2 * s2.2)) + 1))).bind fun r12 =>
  some r12
 else
  some false)) fun o10 =>
  Option.bind ((bif o10 then
  some (w64 ((w64 ((w64 (2 * s2.2)) + 1)) + 1))
 else
  some (w64 ((w64 (2 * s2.2)) + 1)))) fun o17 =>
  (M.impl_hitHeap_Less s2.1 o17 s2.2).bind fun r20 =>
  (bif !r20 then
  some (.inr (s2.1, s2.2))
 else
  (M.impl_hitHeap_Swap s2.1 s2.2 o17).bind fun r25 =>
  some (.inl (r25, o17))))) (h_0, i0_1)) fun o1 =>
  some (decide (i0_1 < o1.2), o1.1)

noncomputable def M.impl_hitHeap_Pop (h_0 : List (Int × Int)) : Option (((Int) × (Int)) × (List (Int × Int))) :=
  (gidx h_0 (w64 ((h_0.length : Int) - 1))).bind fun x3 =>
  (gslice h_0 0 (w64 ((h_0.length : Int) - 1))).bind fun xs14 =>
  some ((x3.1, x3.2), xs14)

noncomputable def M.container_heap_Pop__impl_hitHeap (h_0 : List (Int × Int)) : Option (((Int) × (Int)) × (List (Int × Int))) :=
  (M.impl_hitHeap_Len h_0).bind fun r1 =>
  (M.impl_hitHeap_Swap h_0 0 (w64 (r1 - 1))).bind fun r5 =>
  (M.container_heap_down__impl_hitHeap r5 0 (w64 (r1 - 1))).bind fun r10 =>
  (M.impl_hitHeap_Pop r10.2).bind fun r18 =>
  some ((r18.1.1, r18.1.2), r18.2)

noncomputable def M.impl_nearestHits_offer (n_0 : Int × (List (Int × Int))) (h_1 : Int × Int) : Option ((Int × (List (Int × Int)))) :=
  (M.container_heap_Push__impl_hitHeap__impl_Hit n_0.2 (h_1.1, h_1.2)).bind fun r5 =>
  (bif decide (n_0.1 < (r5.length : Int)) then
  (M.container_heap_Pop__impl_hitHeap r5).bind fun r15 =>
  some (n_0.1, r15.2)
 else
  some (n_0.1, r5))

noncomputable def M.laws_equalHits (a_0 : List (Int × Int)) (b_1 : List (Int × Int)) : Option Bool :=
  (bif (a_0.length : Int) != (b_1.length : Int) then
  some false
 else
  Option.bind (loopM (fun (s3 : (Int)) => (bif decide (s3 < (a_0.length : Int)) then
  (gidx a_0 s3).bind fun x6 =>
  (gidx b_1 s3).bind fun x13 =>
  (bif !(([x6.1, x6.2] : List Int) == ([x13.1, x13.2] : List Int)) then
  some (.inr (.inr false))
 else
  some (.inl (w64 (s3 + 1))))
 else
  some (.inr (.inl ())))) 0) (selim (fun t22 => some true)
   (fun t24 => some t24)))

noncomputable def M.spec_validQuery (list_0 : List (Int × (List Int) × Int)) (kind_1 : Int) (at_2 : List Int) : Option Bool :=
  (M.spec_validStore list_0).bind fun r1 =>
  (bif r1 then
  (M.spec_validKind kind_1).bind fun r6 =>
  (bif r6 then
  (M.spec_isVector at_2).bind fun r11 =>
  some r11
 else
  some false)
 else
  some false)

noncomputable def M.spec_nearer (a_0 : Int × Int) (b_1 : Int × Int) : Option Bool :=
  (bif decide (a_0.2 < b_1.2) then
  some true
 else
  (bif a_0.2 == b_1.2 then
  some (decide (a_0.1 < b_1.1))
 else
  some false))

noncomputable def M.spec_addHit (list_0 : List (Int × Int)) (h_1 : Int × Int) (k_2 : Int) : Option ((List (Int × Int))) :=
  (gapp ([] : List (Int × Int)) list_0).bind fun xs4 =>
  (gapp xs4 ([(h_1.1, h_1.2)] : List (Int × Int))).bind fun xs11 =>
  Option.bind (loopM (fun (s17 : (List (Int × Int)) × (Int)) => Option.bind ((bif decide (0 < s17.2) then
  (gidx s17.1 s17.2).bind fun x22 =>
  (gidx s17.1 (w64 (s17.2 - 1))).bind fun x29 =>
  (M.spec_nearer (x22.1, x22.2) (x29.1, x29.2)).bind fun r37 =>
  some r37
 else
  some false)) fun o20 =>
  (bif o20 then
  (gidx s17.1 s17.2).bind fun x44 =>
  (gidx s17.1 (w64 (s17.2 - 1))).bind fun x54 =>
  (gidx s17.1 s17.2).bind fun x61 =>
  (gidx (s17.1.set s17.2.toNat (x54.1, x54.2)) (w64 (s17.2 - 1))).bind fun x68 =>
  some (.inl (((s17.1.set s17.2.toNat (x54.1, x54.2)).set (w64 (s17.2 - 1)).toNat (x44.1, x44.2)), w64 (s17.2 - 1)))
 else
  some (.inr s17.1))) (xs11, w64 ((xs11.length : Int) - 1))) fun o16 =>
  (gslice o16 0 (min k_2 (o16.length : Int))).bind fun xs76 =>
  some xs76

noncomputable def M.spec_nearest (list_0 : List (Int × (List Int) × Int)) (kind_1 : Int) (at_2 : List Int) (k_3 : Int) : Option ((List (Int × Int))) :=
  Option.bind (loopM (fun (s4 : (List (Int × Int)) × (Int)) => (bif decide (s4.2 < (list_0.length : Int)) then
  (gidx list_0 s4.2).bind fun x9 =>
  (gidx list_0 s4.2).bind fun x15 =>
  (M.spec_dist kind_1 x15.2.1 at_2).bind fun r25 =>
  (M.spec_addHit s4.1 (x9.1, r25) k_3).bind fun r31 =>
  some (.inl (r31, w64 (s4.2 + 1)))
 else
  some (.inr s4.1))) (([] : List (Int × Int)), 0)) fun o3 =>
  some o3

end Go.Vs

namespace Go.Vs

end Go.Vs

namespace Go.Vs

end Go.Vs

namespace Go.Vs

noncomputable def M.slices_xorshift_Next (r_0 : Int) : Option (Int × Int) :=
  some (gxork .u64 (gxork .u64 (gxork .u64 r_0 (gshl .u64 r_0 13)) (gshr .u64 (gxork .u64 r_0 (gshl .u64 r_0 13)) 7)) (gshl .u64 (gxork .u64 (gxork .u64 r_0 (gshl .u64 r_0 13)) (gshr .u64 (gxork .u64 r_0 (gshl .u64 r_0 13)) 7)) 17), gxork .u64 (gxork .u64 (gxork .u64 r_0 (gshl .u64 r_0 13)) (gshr .u64 (gxork .u64 r_0 (gshl .u64 r_0 13)) 7)) (gshl .u64 (gxork .u64 (gxork .u64 r_0 (gshl .u64 r_0 13)) (gshr .u64 (gxork .u64 r_0 (gshl .u64 r_0 13)) 7)) 17))

noncomputable def M.slices_Values_impl_hitHeap_impl_Hit (s_0 : List (Int × Int)) : Option Unit :=
  some ()

noncomputable def M.slices_AppendSeq_impl_Hit_impl_Hit__slices_Values_impl_hitHeap_impl_Hit_1 (seq_1_0 : List (Int × Int)) : Option (List (Int × Int)) :=
  M.coll seq_1_0

noncomputable def M.slices_Collect_impl_Hit__slices_Values_impl_hitHeap_impl_Hit_1 (seq_0_0 : List (Int × Int)) : Option ((List (Int × Int))) :=
  (M.slices_AppendSeq_impl_Hit_impl_Hit__slices_Values_impl_hitHeap_impl_Hit_1 seq_0_0).bind fun r1 =>
  some r1

noncomputable def M.slices_SortFunc_impl_Hit_impl_Hit__impl_compareHits (x_0 : List (Int × Int)) : Option (List (Int × Int)) :=
  M.sortD (fun x y => M.impl_compareHits (x.1, x.2) (y.1, y.2)) x_0

noncomputable def M.slices_SortedFunc_impl_Hit__slices_Values_impl_hitHeap_impl_Hit_1__impl_compareHits (seq_0_0 : List (Int × Int)) : Option ((List (Int × Int))) :=
  (M.slices_Collect_impl_Hit__slices_Values_impl_hitHeap_impl_Hit_1 seq_0_0).bind fun r1 =>
  (M.slices_SortFunc_impl_Hit_impl_Hit__impl_compareHits r1).bind fun r7 =>
  some r7

noncomputable def M.impl_nearestHits_inOrder (n_0 : Int × (List (Int × Int))) : Option ((List (Int × Int))) :=
  (M.slices_Values_impl_hitHeap_impl_Hit n_0.2).bind fun r2 =>
  (M.slices_SortedFunc_impl_Hit__slices_Values_impl_hitHeap_impl_Hit_1__impl_compareHits n_0.2).bind fun r7 =>
  some r7

noncomputable def M.impl_nearestAmong_1__p3__p24 (x_0 : Int × (List Int) × Int) (p_1 : Int) (p_2 : List Int) : Option Int :=
  (M.impl_Distance p_1 x_0.2.1 p_2).bind fun r6 =>
  some r6

noncomputable def M.impl_nearestBy__impl_nearestAmong_1 (list_0 : List (Int × (List Int) × Int)) (k_1 : Int) (dist_2_0 : Int) (dist_2_1 : List Int) : Option ((List (Int × Int))) :=
  Option.bind (loopM (fun (s5 : ((Int) × (List (Int × Int))) × (Int)) => (bif decide (s5.2 < (list_0.length : Int)) then
  (gidx list_0 s5.2).bind fun x10 =>
  (M.impl_nearestAmong_1__p3__p24 (x10.1, x10.2.1, x10.2.2) dist_2_0 dist_2_1).bind fun r25 =>
  (M.impl_nearestHits_offer (s5.1.1, s5.1.2) (x10.1, r25)).bind fun r29 =>
  some (.inl ((r29.1, r29.2), w64 (s5.2 + 1)))
 else
  some (.inr (s5.1.1, s5.1.2)))) ((k_1, []), 0)) fun o4 =>
  (M.impl_nearestHits_inOrder (o4.1, o4.2)).bind fun r40 =>
  some r40

noncomputable def M.impl_nearestAmong (list_0 : List (Int × (List Int) × Int)) (kind_1 : Int) (at_2 : List Int) (k_3 : Int) : Option ((List (Int × Int))) :=
  (M.impl_nearestBy__impl_nearestAmong_1 list_0 k_3 kind_1 at_2).bind fun r5 =>
  some r5

end Go.Vs

namespace Go.Vs

end Go.Vs

namespace Go.Vs

end Go.Vs

namespace Go.Vs

end Go.Vs

namespace Go.Vs

end Go.Vs

namespace Go.Vs

end Go.Vs

namespace Go.Vs

end Go.Vs

namespace Go.Vs

end Go.Vs

namespace Go.Vs

end Go.Vs

namespace Go.Vs

end Go.Vs

namespace Go.Vs

end Go.Vs

namespace Go.Vs

end Go.Vs

namespace Go.Vs

end Go.Vs

namespace Go.Vs

end Go.Vs

namespace Go.Vs

noncomputable def M.spec_anyFilter (r_0 : (List UInt8) × Int) : Option ((Int × Int × Int) × ((List UInt8) × Int)) :=
  (M.spec_reader_one (r_0.1, r_0.2) ([0, 1, 2, 0, 4, 3] : List Int)).bind fun r7 =>
  (M.spec_reader_one (r7.2.1, r7.2.2) ([0, 8, 1, 0, 2] : List Int)).bind fun r17 =>
  (M.spec_reader_one (r17.2.1, r17.2.2) ([0, 0, 3, 12, 15] : List Int)).bind fun r27 =>
  (M.spec_reader_pick (r27.2.1, r27.2.2) 16).bind fun r36 =>
  Option.bind ((bif r36.1 == 0 then
  (M.spec_reader_one (r36.2.1, r36.2.2) ([-1, 16] : List Int)).bind fun r48 =>
  some ((r48.2.1, r48.2.2), (r7.1, r17.1, r48.1))
 else
  some ((r36.2.1, r36.2.2), (r7.1, r17.1, r27.1)))) fun o42 =>
  some ((o42.2.1, o42.2.2.1, o42.2.2.2), (o42.1.1, o42.1.2))

noncomputable def M.spec_validFilter (f_0 : Int × Int × Int) : Option Bool :=
  (M.spec_inRange f_0.1 0 15).bind fun r4 =>
  (bif r4 then
  (M.spec_inRange f_0.2.1 0 15).bind fun r10 =>
  (bif r10 then
  (M.spec_inRange f_0.2.2 0 15).bind fun r16 =>
  some r16
 else
  some false)
 else
  some false)

noncomputable def M.spec_passes (f_0 : Int × Int × Int) (tags_1 : Int) : Option Bool :=
  (bif (gand tags_1 f_0.1) == f_0.1 then
  (bif (gand tags_1 f_0.2.1) == 0 then
  (bif f_0.2.2 == 0 then
  some true
 else
  some ((gand tags_1 f_0.2.2) != 0))
 else
  some false)
 else
  some false)

noncomputable def M.spec_FilterStore (list_0 : List (Int × (List Int) × Int)) (f_1 : Int × Int × Int) : Option ((List (Int × (List Int) × Int))) :=
  Option.bind ((M.spec_validStore list_0).bind fun r6 =>
  (bif !r6 then
  some true
 else
  (M.spec_validFilter (f_1.1, f_1.2.1, f_1.2.2)).bind fun r12 =>
  some (!r12))) fun o5 =>
  (bif o5 then
  some []
 else
  Option.bind (loopM (fun (s19 : (List (Int × (List Int) × Int)) × (Int)) => (bif decide (s19.2 < (list_0.length : Int)) then
  Option.bind ((gidx list_0 s19.2).bind fun x26 =>
  (M.spec_passes (f_1.1, f_1.2.1, f_1.2.2) x26.2.2).bind fun r34 =>
  (bif r34 then
  (gidx list_0 s19.2).bind fun x39 =>
  (M.spec_copyItem (x39.1, x39.2.1, x39.2.2)).bind fun r49 =>
  (gapp s19.1 ([(r49.1, r49.2.1, r49.2.2)] : List (Int × (List Int) × Int))).bind fun xs59 =>
  some xs59
 else
  some s19.1)) fun o24 =>
  some (.inl (o24, w64 (s19.2 + 1)))
 else
  some (.inr s19.1))) (([] : List (Int × (List Int) × Int)), 0)) fun o18 =>
  some o18)

noncomputable def M.spec_DrawFilterNearest (code_0 : List UInt8) : Option ((List (Int × (List Int) × Int)) × (Int × Int × Int) × Int × (List Int) × Int) :=
  (M.spec_newReader code_0).bind fun r3 =>
  (M.spec_anyStore (r3.1, r3.2)).bind fun r10 =>
  (M.spec_anyFilter (r10.2.1, r10.2.2)).bind fun r18 =>
  (M.spec_anyKind (r18.2.1, r18.2.2)).bind fun r27 =>
  (M.spec_anyVector (r27.2.1, r27.2.2)).bind fun r33 =>
  (M.spec_someK (r33.2.1, r33.2.2)).bind fun r42 =>
  some (r10.1, (r18.1.1, r18.1.2.1, r18.1.2.2), r27.1, r33.1, r42.1)

noncomputable def M.spec_FilterNearest (list_0 : List (Int × (List Int) × Int)) (f_1 : Int × Int × Int) (kind_2 : Int) (at_3 : List Int) (k_4 : Int) : Option ((List (Int × Int))) :=
  Option.bind ((M.spec_validFilter (f_1.1, f_1.2.1, f_1.2.2)).bind fun r5 =>
  (bif !r5 then
  some true
 else
  (M.spec_validQuery list_0 kind_2 at_3).bind fun r10 =>
  (bif !r10 then
  some true
 else
  (M.spec_inRange k_4 1 16).bind fun r15 =>
  some (!r15)))) fun o3 =>
  (bif o3 then
  some []
 else
  (M.spec_FilterStore list_0 (f_1.1, f_1.2.1, f_1.2.2)).bind fun r22 =>
  (M.spec_nearest r22 kind_2 at_3 k_4).bind fun r30 =>
  some r30)

end Go.Vs

namespace Go.Vs

end Go.Vs

namespace Go.Vs

end Go.Vs

namespace Go.Vs

noncomputable def M.impl_ValidFilter (f_0 : Int × Int × Int) : Option Bool :=
  (M.impl_validTags f_0.1).bind fun r4 =>
  (bif r4 then
  (M.impl_validTags f_0.2.1).bind fun r10 =>
  (bif r10 then
  (M.impl_validTags f_0.2.2).bind fun r16 =>
  some r16
 else
  some false)
 else
  some false)

noncomputable def M.impl_tagMask_hasAll (m_0 : Int) (others_1 : Int) : Option Bool :=
  some ((gand m_0 others_1) == others_1)

noncomputable def M.impl_tagMask_hasAny (m_0 : Int) (others_1 : Int) : Option Bool :=
  some ((gand m_0 others_1) != 0)

noncomputable def M.impl_Filter_accepts (f_0 : Int × Int × Int) (tags_1 : Int) : Option Bool :=
  (M.impl_tagMask_hasAll tags_1 f_0.1).bind fun r4 =>
  (bif r4 then
  (M.impl_tagMask_hasAny tags_1 f_0.2.1).bind fun r10 =>
  (bif !r10 then
  (bif f_0.2.2 == 0 then
  some true
 else
  (M.impl_tagMask_hasAny tags_1 f_0.2.2).bind fun r18 =>
  some r18)
 else
  some false)
 else
  some false)

noncomputable def M.x_impl_Filter_itemsOf_1__p_impl_Filter (x_0 : Int × (List Int) × Int) (p_1 : Int × Int × Int) : Option Bool :=
  (M.impl_Filter_accepts (p_1.1, p_1.2.1, p_1.2.2) x_0.2.2).bind fun r5 =>
  some r5

noncomputable def M.impl_itemsThat__x_impl_Filter_itemsOf_1 (list_0 : List (Int × (List Int) × Int)) (chosen_1_0 : Int × Int × Int) : Option ((List (Int × (List Int) × Int))) :=
  Option.bind (loopM (fun (s2 : (List (Int × (List Int) × Int)) × (Int)) => (bif decide (s2.2 < (list_0.length : Int)) then
  Option.bind ((gidx list_0 s2.2).bind fun x8 =>
  (M.x_impl_Filter_itemsOf_1__p_impl_Filter (x8.1, x8.2.1, x8.2.2) (chosen_1_0.1, chosen_1_0.2.1, chosen_1_0.2.2)).bind fun r22 =>
  (bif r22 then
  (gapp s2.1 ([(x8.1, x8.2.1, x8.2.2)] : List (Int × (List Int) × Int))).bind fun xs30 =>
  some xs30
 else
  some s2.1)) fun o7 =>
  some (.inl (o7, w64 (s2.2 + 1)))
 else
  some (.inr s2.1))) ([], 0)) fun o1 =>
  some o1

noncomputable def M.impl_Filter_itemsOf (f_0 : Int × Int × Int) (list_1 : List (Int × (List Int) × Int)) : Option ((List (Int × (List Int) × Int))) :=
  (M.impl_itemsThat__x_impl_Filter_itemsOf_1 list_1 (f_0.1, f_0.2.1, f_0.2.2)).bind fun r3 =>
  some r3

noncomputable def M.impl_FilterStore (list_0 : List (Int × (List Int) × Int)) (f_1 : Int × Int × Int) : Option ((List (Int × (List Int) × Int))) :=
  Option.bind ((M.impl_ValidStore list_0).bind fun r4 =>
  (bif !r4 then
  some true
 else
  (M.impl_ValidFilter (f_1.1, f_1.2.1, f_1.2.2)).bind fun r10 =>
  some (!r10))) fun o3 =>
  (bif o3 then
  some []
 else
  (M.impl_Filter_itemsOf (f_1.1, f_1.2.1, f_1.2.2) list_0).bind fun r17 =>
  (M.impl_copyItems r17).bind fun r25 =>
  some r25)

noncomputable def M.impl_FilterNearest (list_0 : List (Int × (List Int) × Int)) (f_1 : Int × Int × Int) (kind_2 : Int) (at_3 : List Int) (k_4 : Int) : Option ((List (Int × Int))) :=
  Option.bind ((M.impl_ValidFilter (f_1.1, f_1.2.1, f_1.2.2)).bind fun r5 =>
  (bif !r5 then
  some true
 else
  (M.impl_validSearch list_0 kind_2 at_3 k_4).bind fun r10 =>
  some (!r10))) fun o3 =>
  (bif o3 then
  some []
 else
  (M.impl_Filter_itemsOf (f_1.1, f_1.2.1, f_1.2.2) list_0).bind fun r17 =>
  (M.impl_nearestAmong r17 kind_2 at_3 k_4).bind fun r25 =>
  some r25)

end Go.Vs

namespace Go.Vs

end Go.Vs

namespace Go.Vs

end Go.Vs

namespace Go.Vs

noncomputable def M.impl_validHit (h_0 : Int × Int) : Option Bool :=
  (M.impl_validKey h_0.1).bind fun r4 =>
  (bif r4 then
  (bif decide (0 ≤ h_0.2) then
  some (decide (h_0.2 ≤ 1000000))
 else
  some false)
 else
  some false)

noncomputable def M.impl_placeIn_1__p3 (h_0 : Int × Int) (p_1 : Int) : Option Bool :=
  some (h_0.1 == p_1)

noncomputable def M.slices_IndexFunc_impl_Hit_impl_Hit__impl_placeIn_1 (s_0 : List (Int × Int)) (f_1_0 : Int) : Option Int :=
  Option.bind (loopM (fun (s2 : (Int)) => (bif decide (s2 < (s_0.length : Int)) then
  (gidx s_0 s2).bind fun x5 =>
  (M.impl_placeIn_1__p3 (x5.1, x5.2) f_1_0).bind fun r12 =>
  (bif r12 then
  some (.inr (.inr s2))
 else
  some (.inl (w64 (s2 + 1))))
 else
  some (.inr (.inl ())))) 0) (selim (fun t17 => some (-1))
   (fun t19 => some t19))

noncomputable def M.impl_placeIn (list_0 : List (Int × Int)) (key_1 : Int) : Option Int :=
  (M.slices_IndexFunc_impl_Hit_impl_Hit__impl_placeIn_1 list_0 key_1).bind fun r3 =>
  some r3

noncomputable def M.impl_ValidHits (list_0 : List (Int × Int)) : Option Bool :=
  (bif decide (16 < (list_0.length : Int)) then
  some false
 else
  Option.bind (loopM (fun (s3 : (Int)) => (bif decide (s3 < (list_0.length : Int)) then
  (gidx list_0 s3).bind fun x6 =>
  Option.bind ((M.impl_validHit (x6.1, x6.2)).bind fun r18 =>
  (bif !r18 then
  some true
 else
  (bif decide (0 < s3) then
  (gidx list_0 (w64 (s3 - 1))).bind fun x24 =>
  (M.impl_compareHits (x24.1, x24.2) (x6.1, x6.2)).bind fun r33 =>
  some (decide (0 ≤ r33))
 else
  some false))) fun o16 =>
  (bif o16 then
  some (.inr (.inr false))
 else
  (gslice list_0 0 s3).bind fun xs40 =>
  (M.impl_placeIn xs40 x6.1).bind fun r49 =>
  (bif decide (0 ≤ r49) then
  some (.inr (.inr false))
 else
  some (.inl (w64 (s3 + 1)))))
 else
  some (.inr (.inl ())))) 0) (selim (fun t54 => some true)
   (fun t56 => some t56)))

end Go.Vs

namespace Go.Vs

noncomputable def M.laws_FnFilterNearestCount (code_0 : List UInt8) : Option Bool :=
  (bif decide (1048576 < (code_0.length : Int)) then
  some true
 else
  (M.spec_DrawFilterNearest code_0).bind fun r2 =>
  (M.impl_FilterNearest r2.1 (r2.2.1.1, r2.2.1.2.1, r2.2.1.2.2) r2.2.2.1 r2.2.2.2.1 r2.2.2.2.2).bind fun r14 =>
  Option.bind ((M.spec_FilterNearest r2.1 (r2.2.1.1, r2.2.1.2.1, r2.2.1.2.2) r2.2.2.1 r2.2.2.2.1 r2.2.2.2.2).bind fun r22 =>
  (M.laws_equalHits r14 r22).bind fun r30 =>
  (bif !r30 then
  some true
 else
  some ((r14.length : Int) == 0))) fun o20 =>
  (bif o20 then
  (M.spec_FilterNearest r2.1 (r2.2.1.1, r2.2.1.2.1, r2.2.1.2.2) r2.2.2.1 r2.2.2.2.1 r2.2.2.2.2).bind fun r42 =>
  (M.laws_equalHits r14 r42).bind fun r52 =>
  some r52
 else
  (M.impl_FilterStore r2.1 (r2.2.1.1, r2.2.1.2.1, r2.2.1.2.2)).bind fun r59 =>
  (bif (r14.length : Int) == (min r2.2.2.2.2 (r59.length : Int)) then
  (M.impl_ValidHits r14).bind fun r69 =>
  some r69
 else
  some false)))

end Go.Vs

namespace Go.Vs

end Go.Vs

namespace Go.Vs

end Go.Vs

namespace Go.Vs

end Go.Vs

namespace Go.Vs

end Go.Vs

namespace Go.Vs

end Go.Vs

namespace Go.Vs
open Go

/-! ## What the library computes -/
end Go.Vs

namespace Go.Vs

end Go.Vs

namespace Go.Vs

end Go.Vs
