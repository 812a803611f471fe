/- What the functions compute. -/
import Derived.Test.YtdjjikmfkejdiadSpreadOfCentreEng1
import Derived.Test.YtdjjikmfkejdiadSpreadOfCentreEng2
set_option linter.unusedVariables false
set_option linter.unusedSimpArgs false
namespace Go.Vs

noncomputable def M.spec_reader_pick (r_0 : (List UInt8) × Int) (n_1 : Int) : Option (Int × ((List UInt8) × Int)) :=
  Option.bind ((bif decide (n_1 < 1) then
  some true
 else
  some ((r_0.1.length : Int) == 0))) fun o5 =>
  (bif o5 then
  some (0, (r_0.1, w64 (r_0.2 + 1)))
 else
  (bif decide ((w64 ((w64 (r_0.2 + 1)) - 1)) < (r_0.1.length : Int)) then
  (gidx r_0.1 (w64 ((w64 (r_0.2 + 1)) - 1))).bind fun x12 =>
  (grem (w64 (x12.toNat : Int)) n_1).bind fun q17 =>
  some (q17, (r_0.1, w64 (r_0.2 + 1)))
 else
  (grem (w64 ((w64 (r_0.2 + 1)) - 1)) (r_0.1.length : Int)).bind fun q19 =>
  (gidx r_0.1 q19).bind fun x21 =>
  (grem (w64 ((w64 ((w64 ((w64 (r_0.2 + 1)) - 1)) * 7)) + 3)) (r_0.1.length : Int)).bind fun q26 =>
  (gidx r_0.1 q26).bind fun x28 =>
  (gquo (w64 ((w64 (r_0.2 + 1)) - 1)) (r_0.1.length : Int)).bind fun q33 =>
  (grem (gxor (w64 ((w64 ((w64 ((w64 ((w64 (x21.toNat : Int)) * 131)) + (w64 ((w64 (x28.toNat : Int)) * 1117)))) + (w64 ((w64 ((w64 (r_0.2 + 1)) - 1)) * 29)))) + (w64 (q33 * 53)))) (w64 ((w64 ((w64 ((w64 ((w64 ((w64 (x21.toNat : Int)) * 131)) + (w64 ((w64 (x28.toNat : Int)) * 1117)))) + (w64 ((w64 ((w64 (r_0.2 + 1)) - 1)) * 29)))) + (w64 (q33 * 53)))).tdiv 64))) n_1).bind fun q36 =>
  some (q36, (r_0.1, w64 (r_0.2 + 1)))))

noncomputable def M.spec_reader_one (r_0 : (List UInt8) × Int) (list_1 : List Int) : Option (Int × ((List UInt8) × Int)) :=
  (M.spec_reader_pick (r_0.1, r_0.2) (list_1.length : Int)).bind fun r1 =>
  (gidx list_1 r1.1).bind fun x9 =>
  some (x9, (r1.2.1, r1.2.2))

noncomputable def M.spec_someCoord (r_0 : (List UInt8) × Int) : Option (Int × ((List UInt8) × Int)) :=
  (M.spec_reader_pick (r_0.1, r_0.2) 201).bind fun r1 =>
  (M.spec_reader_pick (r1.2.1, r1.2.2) 21).bind fun r9 =>
  (M.spec_reader_one (r9.2.1, r9.2.2) ([0, 1, -1, 5, -7, 10, 3, 100, -100, w64 (r1.1 - 100), w64 (r9.1 - 10)] : List Int)).bind fun r27 =>
  some (r27.1, (r27.2.1, r27.2.2))

noncomputable def M.spec_someVector (r_0 : (List UInt8) × Int) : Option ((List Int) × ((List UInt8) × Int)) :=
  Option.bind (loopM (fun (s7 : ((List UInt8) × (Int)) × (List Int) × (Int)) => (bif decide (s7.2.2 < 4) then
  (M.spec_someCoord (s7.1.1, s7.1.2)).bind fun r18 =>
  (gapp s7.2.1 ([r18.1] : List Int)).bind fun xs33 =>
  some (.inl ((r18.2.1, r18.2.2), xs33, w64 (s7.2.2 + 1)))
 else
  some (.inr ((s7.1.1, s7.1.2), s7.2.1)))) ((r_0.1, r_0.2), ([] : List Int), 0)) fun o6 =>
  some (o6.2, (o6.1.1, o6.1.2))

noncomputable def M.spec_copyInts (list_0 : List Int) : Option ((List Int)) :=
  (gapp ([] : List Int) list_0).bind fun xs6 =>
  some xs6

noncomputable def M.spec_reader_spoil (r_0 : (List UInt8) × Int) (list_1 : List Int) (n_2 : Int) : Option ((List Int) × ((List UInt8) × Int)) :=
  (M.spec_copyInts list_1).bind fun r1 =>
  (M.spec_reader_pick (r_0.1, r_0.2) 20).bind fun r8 =>
  Option.bind ((bif r8.1 == 0 then
  (gapp r1 ([n_2] : List Int)).bind fun xs25 =>
  some ((r8.2.1, r8.2.2), xs25)
 else
  (bif r8.1 == 1 then
  (bif decide (0 < (r1.length : Int)) then
  (gslice r1 1 (r1.length : Int)).bind fun xs36 =>
  some ((r8.2.1, r8.2.2), xs36)
 else
  some ((r8.2.1, r8.2.2), r1))
 else
  (bif r8.1 == 2 then
  (bif decide (0 < (r1.length : Int)) then
  (M.spec_reader_pick (r8.2.1, r8.2.2) (r1.length : Int)).bind fun r44 =>
  (M.spec_reader_one (r44.2.1, r44.2.2) ([-1, n_2, 0, 1] : List Int)).bind fun r64 =>
  (gidx r1 r44.1).bind fun x73 =>
  some ((r64.2.1, r64.2.2), (r1.set r44.1.toNat r64.1))
 else
  some ((r8.2.1, r8.2.2), r1))
 else
  some ((r8.2.1, r8.2.2), r1))))) fun o17 =>
  some (o17.2, (o17.1.1, o17.1.2))

noncomputable def M.spec_anyVector (r_0 : (List UInt8) × Int) : Option ((List Int) × ((List UInt8) × Int)) :=
  (M.spec_reader_pick (r_0.1, r_0.2) 10).bind fun r1 =>
  (bif r1.1 == 0 then
  (M.spec_someVector (r1.2.1, r1.2.2)).bind fun r10 =>
  (M.spec_reader_spoil (r10.2.1, r10.2.2) r10.1 101).bind fun r26 =>
  some (r26.1, (r26.2.1, r26.2.2))
 else
  (M.spec_someVector (r1.2.1, r1.2.2)).bind fun r37 =>
  some (r37.1, (r37.2.1, r37.2.2)))

noncomputable def M.spec_newReader (code_0 : List UInt8) : Option (((List UInt8) × Int)) :=
  Option.bind ((bif decide (2000 < (code_0.length : Int)) then
  (gslice code_0 0 2000).bind fun xs3 =>
  some xs3
 else
  some code_0)) fun o1 =>
  some (o1, 0)

noncomputable def M.impl_validCoords (coords_0 : List Int) : Option Bool :=
  Option.bind (loopM (fun (s2 : (Int)) => (bif decide (s2 < (coords_0.length : Int)) then
  (gidx coords_0 s2).bind fun x5 =>
  Option.bind ((bif decide (x5 < (-100)) then
  some true
 else
  some (decide (100 < x5)))) fun o11 =>
  (bif o11 then
  some (.inr (.inr false))
 else
  some (.inl (w64 (s2 + 1))))
 else
  some (.inr (.inl ())))) 0) (selim (fun t15 => some true)
   (fun t17 => some t17))

noncomputable def M.impl_ValidVector (v_0 : List Int) : Option Bool :=
  (bif (v_0.length : Int) == 4 then
  (M.impl_validCoords v_0).bind fun r2 =>
  some r2
 else
  some false)

noncomputable def M.spec_inRange (n_0 : Int) (low_1 : Int) (high_2 : Int) : Option Bool :=
  (bif decide (low_1 ≤ n_0) then
  some (decide (n_0 ≤ high_2))
 else
  some false)

noncomputable def M.spec_allIn (list_0 : List Int) (low_1 : Int) (high_2 : Int) : Option Bool :=
  Option.bind (loopM (fun (s2 : (Int)) => (bif decide (s2 < (list_0.length : Int)) then
  (gidx list_0 s2).bind fun x7 =>
  (M.spec_inRange x7 low_1 high_2).bind fun r12 =>
  (bif !r12 then
  some (.inr (.inr false))
 else
  some (.inl (w64 (s2 + 1))))
 else
  some (.inr (.inl ())))) 0) (selim (fun t17 => some true)
   (fun t19 => some t19))

noncomputable def M.spec_isVector (v_0 : List Int) : Option Bool :=
  (bif (v_0.length : Int) == 4 then
  (M.spec_allIn v_0 (-100) 100).bind fun r2 =>
  some r2
 else
  some false)

noncomputable def M.impl_distanceOf (kind_0 : Int) (gaps_1 : List Int) : Option Int :=
  Option.bind (loopM (fun (s8 : (Int) × (Int)) => (bif decide (s8.2 < 4) then
  Option.bind ((gidx gaps_1 s8.2).bind fun x13 =>
  (bif kind_0 == 1 then
  some (.inl (w64 (s8.1 + x13)))
 else
  (bif kind_0 == 2 then
  some (.inl (max s8.1 x13))
 else
  (bif kind_0 == 3 then
  some (.inl (w64 (s8.1 + (w64 (x13 * x13)))))
 else
  (bif kind_0 == 4 then
  some (.inl (w64 (s8.1 + (min x13 1))))
 else
  some (.inr (-1))))))) (selim (fun t19 => some (.inl (t19, w64 (s8.2 + 1))))
   (fun t21 => some (.inr (.inr t21))))
 else
  some (.inr (.inl s8.1)))) (0, 0)) (selim (fun t23 => some t23)
   (fun t25 => some t25))

noncomputable def M.impl_gapsOf (a_0 : List Int) (b_1 : List Int) : Option ((List Int)) :=
  Option.bind (loopM (fun (s32 : (List Int) × (Int)) => (bif decide (s32.2 < 4) then
  (gidx a_0 s32.2).bind fun x47 =>
  (gidx b_1 s32.2).bind fun x50 =>
  (gidx b_1 s32.2).bind fun x53 =>
  (gidx a_0 s32.2).bind fun x56 =>
  (gidx s32.1 s32.2).bind fun x60 =>
  some (.inl ((s32.1.set s32.2.toNat (max (w64 (x47 - x50)) (w64 (x53 - x56)))), w64 (s32.2 + 1)))
 else
  some (.inr s32.1))) ((List.replicate 4 0), 0)) fun o31 =>
  some o31

noncomputable def M.impl_Distance (kind_0 : Int) (a_1 : List Int) (b_2 : List Int) : Option Int :=
  Option.bind ((M.impl_ValidVector a_1).bind fun r2 =>
  (bif !r2 then
  some true
 else
  (M.impl_ValidVector b_2).bind fun r7 =>
  some (!r7))) fun o1 =>
  (bif o1 then
  some (-1)
 else
  (garr 4 a_1).bind fun xs15 =>
  (garr 4 b_2).bind fun xs22 =>
  (M.impl_gapsOf (List.take 4 a_1) (List.take 4 b_2)).bind fun r29 =>
  (M.impl_distanceOf kind_0 r29).bind fun r33 =>
  some r33)

noncomputable def M.spec_size (n_0 : Int) : Option Int :=
  some (max n_0 (w64 (0 - n_0)))

noncomputable def M.spec_toInt (b_0 : Bool) : Option Int :=
  (bif b_0 then
  some 1
 else
  some 0)

noncomputable def M.spec_dist (kind_0 : Int) (a_1 : List Int) (b_2 : List Int) : Option Int :=
  Option.bind (loopM (fun (s2 : (Int) × (Int)) => (bif decide (s2.2 < (a_1.length : Int)) then
  Option.bind ((gidx a_1 s2.2).bind fun x9 =>
  (gidx b_2 s2.2).bind fun x14 =>
  (M.spec_size (w64 (x9 - x14))).bind fun r20 =>
  (bif kind_0 == 1 then
  some (w64 (s2.1 + r20))
 else
  (bif kind_0 == 2 then
  some (max s2.1 r20)
 else
  (bif kind_0 == 3 then
  some (w64 (s2.1 + (w64 (r20 * r20))))
 else
  (M.spec_toInt (decide (0 < r20))).bind fun r27 =>
  some (w64 (s2.1 + r27)))))) fun o8 =>
  some (.inl (o8, w64 (s2.2 + 1)))
 else
  some (.inr s2.1))) (0, 0)) fun o1 =>
  some o1

noncomputable def M.impl_validVectors (list_0 : List (List Int)) (most_1 : Int) : Option Bool :=
  Option.bind ((bif decide ((list_0.length : Int) < 1) then
  some true
 else
  some (decide (most_1 < (list_0.length : Int))))) fun o1 =>
  (bif o1 then
  some false
 else
  Option.bind (loopM (fun (s6 : (Int)) => (bif decide (s6 < (list_0.length : Int)) then
  (gidx list_0 s6).bind fun x9 =>
  (M.impl_ValidVector x9).bind fun r19 =>
  (bif !r19 then
  some (.inr (.inr false))
 else
  some (.inl (w64 (s6 + 1))))
 else
  some (.inr (.inl ())))) 0) (selim (fun t24 => some true)
   (fun t26 => some t26)))

noncomputable def M.spec_someItem (r_0 : (List UInt8) × Int) : Option ((Int × (List Int) × Int) × ((List UInt8) × Int)) :=
  (M.spec_reader_pick (r_0.1, r_0.2) 30).bind fun r7 =>
  (M.spec_someVector (r7.2.1, r7.2.2)).bind fun r16 =>
  (M.spec_reader_pick (r16.2.1, r16.2.2) 16).bind fun r29 =>
  some ((w64 (1 + r7.1), r16.1, r29.1), (r29.2.1, r29.2.2))

noncomputable def M.spec_anyItem (r_0 : (List UInt8) × Int) : Option ((Int × (List Int) × Int) × ((List UInt8) × Int)) :=
  (M.spec_someItem (r_0.1, r_0.2)).bind fun r7 =>
  (M.spec_reader_pick (r7.2.1, r7.2.2) 16).bind fun r30 =>
  Option.bind ((bif r30.1 == 0 then
  (M.spec_reader_one (r30.2.1, r30.2.2) ([0, 99, 100] : List Int)).bind fun r54 =>
  some ((r54.2.1, r54.2.2), (r54.1, r7.1.2.1, r7.1.2.2))
 else
  (bif r30.1 == 1 then
  (M.spec_anyVector (r30.2.1, r30.2.2)).bind fun r69 =>
  some ((r69.2.1, r69.2.2), (r7.1.1, r69.1, r7.1.2.2))
 else
  (bif r30.1 == 2 then
  (M.spec_reader_one (r30.2.1, r30.2.2) ([-1, 16] : List Int)).bind fun r106 =>
  some ((r106.2.1, r106.2.2), (r7.1.1, r7.1.2.1, r106.1))
 else
  some ((r30.2.1, r30.2.2), (r7.1.1, r7.1.2.1, r7.1.2.2)))))) fun o40 =>
  some ((o40.2.1, o40.2.2.1, o40.2.2.2), (o40.1.1, o40.1.2))

noncomputable def M.spec_validItem (x_0 : Int × (List Int) × Int) : Option Bool :=
  (M.spec_inRange x_0.1 1 99).bind fun r7 =>
  (bif r7 then
  (M.spec_isVector x_0.2.1).bind fun r13 =>
  (bif r13 then
  (M.spec_inRange x_0.2.2 0 15).bind fun r19 =>
  some r19
 else
  some false)
 else
  some false)

noncomputable def M.spec_validStore (list_0 : List (Int × (List Int) × Int)) : Option Bool :=
  Option.bind (loopM (fun (s2 : (Int)) => (bif decide (s2 < (list_0.length : Int)) then
  Option.bind ((gidx list_0 s2).bind fun x8 =>
  (M.spec_validItem (x8.1, x8.2.1, x8.2.2)).bind fun r19 =>
  (bif !r19 then
  some true
 else
  (bif decide (0 < s2) then
  (gidx list_0 s2).bind fun x24 =>
  (gidx list_0 (w64 (s2 - 1))).bind fun x29 =>
  some (decide (x24.1 ≤ x29.1))
 else
  some false))) fun o7 =>
  (bif o7 then
  some (.inr (.inr false))
 else
  some (.inl (w64 (s2 + 1))))
 else
  some (.inr (.inl ())))) 0) (selim (fun t39 => some (decide ((list_0.length : Int) ≤ 16)))
   (fun t42 => some t42))

noncomputable def M.spec_copyItem (x_0 : Int × (List Int) × Int) : Option ((Int × (List Int) × Int)) :=
  (M.spec_copyInts x_0.2.1).bind fun r14 =>
  some (x_0.1, r14, x_0.2.2)

noncomputable def M.spec_put (list_0 : List (Int × (List Int) × Int)) (x_1 : Int × (List Int) × Int) : Option ((List (Int × (List Int) × Int))) :=
  Option.bind (loopM (fun (s14 : (List (Int × (List Int) × Int)) × (Int)) => (bif decide (s14.2 < (list_0.length : Int)) then
  Option.bind ((gidx list_0 s14.2).bind fun x26 =>
  (bif decide (x26.1 < x_1.1) then
  (gidx list_0 s14.2).bind fun x33 =>
  (M.spec_copyItem (x33.1, x33.2.1, x33.2.2)).bind fun r44 =>
  (gapp s14.1 ([(r44.1, r44.2.1, r44.2.2)] : List (Int × (List Int) × Int))).bind fun xs60 =>
  some xs60
 else
  some s14.1)) fun o25 =>
  some (.inl (o25, w64 (s14.2 + 1)))
 else
  some (.inr s14.1))) (([] : List (Int × (List Int) × Int)), 0)) fun o13 =>
  (M.spec_copyItem (x_1.1, x_1.2.1, x_1.2.2)).bind fun r87 =>
  (gapp o13 ([(r87.1, r87.2.1, r87.2.2)] : List (Int × (List Int) × Int))).bind fun xs103 =>
  Option.bind (loopM (fun (s115 : (List (Int × (List Int) × Int)) × (Int)) => (bif decide (s115.2 < (list_0.length : Int)) then
  Option.bind ((gidx list_0 s115.2).bind fun x127 =>
  (bif decide (x_1.1 < x127.1) then
  (gidx list_0 s115.2).bind fun x134 =>
  (M.spec_copyItem (x134.1, x134.2.1, x134.2.2)).bind fun r145 =>
  (gapp s115.1 ([(r145.1, r145.2.1, r145.2.2)] : List (Int × (List Int) × Int))).bind fun xs161 =>
  some xs161
 else
  some s115.1)) fun o126 =>
  some (.inl (o126, w64 (s115.2 + 1)))
 else
  some (.inr s115.1))) (xs103, 0)) fun o114 =>
  some o114

noncomputable def M.spec_PutItem (list_0 : List (Int × (List Int) × Int)) (x_1 : Int × (List Int) × Int) : Option ((List (Int × (List Int) × Int)) × Bool) :=
  Option.bind ((M.spec_validStore list_0).bind fun r8 =>
  (bif !r8 then
  some true
 else
  (M.spec_validItem (x_1.1, x_1.2.1, x_1.2.2)).bind fun r14 =>
  some (!r14))) fun o7 =>
  (bif o7 then
  some ([], false)
 else
  (M.spec_put list_0 (x_1.1, x_1.2.1, x_1.2.2)).bind fun r24 =>
  (M.spec_validStore r24).bind fun r35 =>
  (bif !r35 then
  some ([], false)
 else
  some (r24, true)))

noncomputable def M.spec_someStore (r_0 : (List UInt8) × Int) : Option ((List (Int × (List Int) × Int)) × ((List UInt8) × Int)) :=
  (M.spec_reader_one (r_0.1, r_0.2) ([4, 6, 8, 3, 1, 0, 20, 12] : List Int)).bind fun r17 =>
  Option.bind (loopM (fun (s27 : ((List UInt8) × (Int)) × (List (Int × (List Int) × Int)) × (Int)) => (bif decide (0 < s27.2.2) then
  Option.bind ((M.spec_someItem (s27.1.1, s27.1.2)).bind fun r39 =>
  (M.spec_PutItem s27.2.1 (r39.1.1, r39.1.2.1, r39.1.2.2)).bind fun r55 =>
  (bif r55.2 then
  some ((r39.2.1, r39.2.2), r55.1)
 else
  some ((r39.2.1, r39.2.2), s27.2.1))) fun o38 =>
  some (.inl ((o38.1.1, o38.1.2), o38.2, w64 (s27.2.2 - 1)))
 else
  some (.inr ((s27.1.1, s27.1.2), s27.2.1)))) ((r17.2.1, r17.2.2), ([] : List (Int × (List Int) × Int)), r17.1)) fun o26 =>
  some (o26.2, (o26.1.1, o26.1.2))

noncomputable def M.spec_anyStore (r_0 : (List UInt8) × Int) : Option ((List (Int × (List Int) × Int)) × ((List UInt8) × Int)) :=
  (M.spec_someStore (r_0.1, r_0.2)).bind fun r1 =>
  (M.spec_reader_pick (r1.2.1, r1.2.2) 20).bind fun r12 =>
  Option.bind ((bif r12.1 == 0 then
  (M.spec_anyItem (r12.2.1, r12.2.2)).bind fun r23 =>
  (gapp r1.1 ([(r23.1.1, r23.1.2.1, r23.1.2.2)] : List (Int × (List Int) × Int))).bind fun xs41 =>
  some ((r23.2.1, r23.2.2), xs41)
 else
  (bif r12.1 == 1 then
  (bif decide (0 < (r1.1.length : Int)) then
  (M.spec_reader_pick (r12.2.1, r12.2.2) (r1.1.length : Int)).bind fun r52 =>
  (M.spec_anyVector (r52.2.1, r52.2.2)).bind fun r61 =>
  (gidx r1.1 r52.1).bind fun x74 =>
  some ((r61.2.1, r61.2.2), (r1.1.set r52.1.toNat (x74.1, r61.1, x74.2.2)))
 else
  some ((r12.2.1, r12.2.2), r1.1))
 else
  some ((r12.2.1, r12.2.2), r1.1)))) fun o21 =>
  some (o21.2, (o21.1.1, o21.1.2))

noncomputable def M.impl_validKey (key_0 : Int) : Option Bool :=
  (bif decide (1 ≤ key_0) then
  some (decide (key_0 ≤ 99))
 else
  some false)

noncomputable def M.impl_validTags (tags_0 : Int) : Option Bool :=
  (bif decide (0 ≤ tags_0) then
  some (decide (tags_0 ≤ 15))
 else
  some false)

noncomputable def M.impl_validItem (x_0 : Int × (List Int) × Int) : Option Bool :=
  (M.impl_validKey x_0.1).bind fun r4 =>
  (bif r4 then
  (M.impl_ValidVector x_0.2.1).bind fun r10 =>
  (bif r10 then
  (M.impl_validTags x_0.2.2).bind fun r16 =>
  some r16
 else
  some false)
 else
  some false)

noncomputable def M.impl_ValidStore (list_0 : List (Int × (List Int) × Int)) : Option Bool :=
  (bif decide (16 < (list_0.length : Int)) then
  some false
 else
  Option.bind (loopM (fun (s3 : (Int) × (Int)) => (bif decide (s3.2 < (list_0.length : Int)) then
  (gidx list_0 s3.2).bind fun x8 =>
  Option.bind ((M.impl_validItem (x8.1, x8.2.1, x8.2.2)).bind fun r30 =>
  (bif !r30 then
  some true
 else
  some (decide (x8.1 ≤ s3.1)))) fun o29 =>
  (bif o29 then
  some (.inr (.inr false))
 else
  some (.inl (x8.1, w64 (s3.2 + 1))))
 else
  some (.inr (.inl ())))) (0, 0)) (selim (fun t41 => some true)
   (fun t43 => some t43)))

end Go.Vs

namespace Go.Vs

end Go.Vs

namespace Go.Vs

end Go.Vs

namespace Go.Vs

end Go.Vs

namespace Go.Vs

end Go.Vs

namespace Go.Vs

end Go.Vs

namespace Go.Vs

end Go.Vs

namespace Go.Vs

end Go.Vs

namespace Go.Vs

end Go.Vs

namespace Go.Vs

end Go.Vs

namespace Go.Vs

end Go.Vs

namespace Go.Vs

end Go.Vs

namespace Go.Vs

end Go.Vs

namespace Go.Vs

end Go.Vs

namespace Go.Vs

end Go.Vs

namespace Go.Vs

noncomputable def M.spec_someVectors (r_0 : (List UInt8) × Int) (n_1 : Int) : Option ((List (List Int)) × ((List UInt8) × Int)) :=
  Option.bind (loopM (fun (s4 : ((List UInt8) × (Int)) × (List (List Int)) × (Int)) => (bif decide (s4.2.2 < n_1) then
  (M.spec_someVector (s4.1.1, s4.1.2)).bind fun r11 =>
  (gapp s4.2.1 ([r11.1] : List (List Int))).bind fun xs23 =>
  some (.inl ((r11.2.1, r11.2.2), xs23, w64 (s4.2.2 + 1)))
 else
  some (.inr ((s4.1.1, s4.1.2), s4.2.1)))) ((r_0.1, r_0.2), ([] : List (List Int)), 0)) fun o3 =>
  some (o3.2, (o3.1.1, o3.1.2))

noncomputable def M.spec_anyCentres (r_0 : (List UInt8) × Int) : Option ((List (List Int)) × ((List UInt8) × Int)) :=
  (M.spec_reader_one (r_0.1, r_0.2) ([2, 3, 4, 1, 0, 5, 3] : List Int)).bind fun r5 =>
  (M.spec_someVectors (r5.2.1, r5.2.2) r5.1).bind fun r11 =>
  Option.bind ((bif decide (0 < (r11.1.length : Int)) then
  (M.spec_reader_pick (r11.2.1, r11.2.2) 12).bind fun r21 =>
  some ((r21.2.1, r21.2.2), r21.1 == 0)
 else
  some ((r11.2.1, r11.2.2), false))) fun o19 =>
  Option.bind ((bif o19.2 then
  (M.spec_reader_pick (o19.1.1, o19.1.2) (r11.1.length : Int)).bind fun r32 =>
  (M.spec_anyVector (r32.2.1, r32.2.2)).bind fun r38 =>
  (gidx r11.1 r32.1).bind fun x46 =>
  some ((r38.2.1, r38.2.2), (r11.1.set r32.1.toNat r38.1))
 else
  some ((o19.1.1, o19.1.2), r11.1))) fun o30 =>
  some (o30.2, (o30.1.1, o30.1.2))

noncomputable def M.impl_ValidCentres (list_0 : List (List Int)) : Option Bool :=
  (M.impl_validVectors list_0 4).bind fun r1 =>
  some r1

noncomputable def M.spec_validCentres (list_0 : List (List Int)) : Option Bool :=
  Option.bind (loopM (fun (s2 : (Int)) => (bif decide (s2 < (list_0.length : Int)) then
  (gidx list_0 s2).bind fun x5 =>
  (M.spec_isVector x5).bind fun r15 =>
  (bif !r15 then
  some (.inr (.inr false))
 else
  some (.inl (w64 (s2 + 1))))
 else
  some (.inr (.inl ())))) 0) (selim (fun t20 => (M.spec_inRange (list_0.length : Int) 1 4).bind fun r22 =>
  some r22)
   (fun t26 => some t26))

noncomputable def M.impl_CentreOf (centres_0 : List (List Int)) (at_1 : List Int) : Option Int :=
  Option.bind ((M.impl_ValidCentres centres_0).bind fun r2 =>
  (bif !r2 then
  some true
 else
  (M.impl_ValidVector at_1).bind fun r7 =>
  some (!r7))) fun o1 =>
  (bif o1 then
  some (-1)
 else
  Option.bind (loopM (fun (s14 : (Int) × (Int) × (Int)) => (bif decide (s14.2.2 < (centres_0.length : Int)) then
  Option.bind ((gidx centres_0 s14.2.2).bind fun x18 =>
  (M.impl_Distance 3 x18 at_1).bind fun r28 =>
  (bif decide (r28 < s14.2.1) then
  some (s14.2.2, r28)
 else
  some (s14.1, s14.2.1))) fun o17 =>
  some (.inl (o17.1, o17.2, w64 (s14.2.2 + 1)))
 else
  some (.inr s14.1))) (0, 1000000, 0)) fun o13 =>
  some o13)

noncomputable def M.spec_centreOf (centres_0 : List (List Int)) (at_1 : List Int) : Option Int :=
  Option.bind (loopM (fun (s2 : (Int) × (Int)) => (bif decide (s2.2 < (centres_0.length : Int)) then
  Option.bind ((gidx centres_0 s2.2).bind fun x6 =>
  (M.spec_dist 3 x6 at_1).bind fun r16 =>
  (gidx centres_0 s2.1).bind fun x19 =>
  (M.spec_dist 3 x19 at_1).bind fun r30 =>
  (bif decide (r16 < r30) then
  some s2.2
 else
  some s2.1)) fun o5 =>
  some (.inl (o5, w64 (s2.2 + 1)))
 else
  some (.inr s2.1))) (0, 1)) fun o1 =>
  some o1

noncomputable def M.spec_DrawAssignItems (code_0 : List UInt8) : Option ((List (List Int)) × (List (Int × (List Int) × Int))) :=
  (M.spec_newReader code_0).bind fun r1 =>
  (M.spec_anyCentres (r1.1, r1.2)).bind fun r8 =>
  (M.spec_anyStore (r8.2.1, r8.2.2)).bind fun r16 =>
  some (r8.1, r16.1)

noncomputable def M.impl_validClusters (centres_0 : List (List Int)) (list_1 : List (Int × (List Int) × Int)) : Option Bool :=
  (M.impl_ValidCentres centres_0).bind fun r1 =>
  (bif r1 then
  (M.impl_ValidStore list_1).bind fun r6 =>
  some r6
 else
  some false)

noncomputable def M.spec_DrawSpreadOf (code_0 : List UInt8) : Option ((List (List Int)) × (List (Int × (List Int) × Int))) :=
  (M.spec_DrawAssignItems code_0).bind fun r1 =>
  some (r1.1, r1.2)

noncomputable def M.impl_SpreadOf_1__p_SSint (x_0 : Int × (List Int) × Int) (p_1 : List (List Int)) : Option Int :=
  (M.impl_CentreOf p_1 x_0.2.1).bind fun r6 =>
  (gidx p_1 r6).bind fun x9 =>
  (M.impl_Distance 3 x9 x_0.2.1).bind fun r21 =>
  some r21

noncomputable def M.impl_sumOf_impl_Item__impl_SpreadOf_1 (list_0 : List (Int × (List Int) × Int)) (number_1_0 : List (List Int)) : Option Int :=
  Option.bind (loopM (fun (s2 : (Int) × (Int)) => (bif decide (s2.2 < (list_0.length : Int)) then
  (gidx list_0 s2.2).bind fun x5 =>
  (M.impl_SpreadOf_1__p_SSint (x5.1, x5.2.1, x5.2.2) number_1_0).bind fun r19 =>
  some (.inl (w64 (s2.1 + r19), w64 (s2.2 + 1)))
 else
  some (.inr s2.1))) (0, 0)) fun o1 =>
  some o1

noncomputable def M.impl_SpreadOf (centres_0 : List (List Int)) (list_1 : List (Int × (List Int) × Int)) : Option Int :=
  (M.impl_validClusters centres_0 list_1).bind fun r4 =>
  (bif !r4 then
  some (-1)
 else
  (M.impl_sumOf_impl_Item__impl_SpreadOf_1 list_1 centres_0).bind fun r9 =>
  some r9)

noncomputable def M.spec_SpreadOf (centres_0 : List (List Int)) (list_1 : List (Int × (List Int) × Int)) : Option Int :=
  Option.bind ((M.spec_validCentres centres_0).bind fun r2 =>
  (bif !r2 then
  some true
 else
  (M.spec_validStore list_1).bind fun r7 =>
  some (!r7))) fun o1 =>
  (bif o1 then
  some (-1)
 else
  Option.bind (loopM (fun (s14 : (Int) × (Int)) => (bif decide (s14.2 < (list_1.length : Int)) then
  (gidx list_1 s14.2).bind fun x17 =>
  (M.spec_centreOf centres_0 x17.2.1).bind fun r27 =>
  (gidx centres_0 r27).bind fun x30 =>
  (gidx list_1 s14.2).bind fun x40 =>
  (M.spec_dist 3 x30 x40.2.1).bind fun r50 =>
  some (.inl (w64 (s14.1 + r50), w64 (s14.2 + 1)))
 else
  some (.inr s14.1))) (0, 0)) fun o13 =>
  some o13)

noncomputable def M.laws_FnSpreadOfCentre (code_0 : List UInt8) : Option Bool :=
  (bif decide (1048576 < (code_0.length : Int)) then
  some true
 else
  (M.spec_DrawSpreadOf code_0).bind fun r2 =>
  (M.impl_SpreadOf r2.1 r2.2).bind fun r10 =>
  Option.bind ((M.spec_SpreadOf r2.1 r2.2).bind fun r15 =>
  (bif r10 != r15 then
  some true
 else
  (bif decide (r10 < 0) then
  some true
 else
  (bif (r2.2.length : Int) == 0 then
  some true
 else
  some (decide (4 < (r2.2.length : Int))))))) fun o14 =>
  (bif o14 then
  (M.spec_SpreadOf r2.1 r2.2).bind fun r28 =>
  some (r10 == r28)
 else
  Option.bind (loopM (fun (s35 : (List (List Int)) × (Int)) => (bif decide (s35.2 < (r2.2.length : Int)) then
  (gidx r2.2 s35.2).bind fun x40 =>
  (gapp s35.1 ([x40.2.1] : List (List Int))).bind fun xs52 =>
  some (.inl (xs52, w64 (s35.2 + 1)))
 else
  some (.inr s35.1))) (([] : List (List Int)), 0)) fun o34 =>
  (M.impl_SpreadOf o34 r2.2).bind fun r64 =>
  some (r64 == 0)))

end Go.Vs

namespace Go.Vs

end Go.Vs

namespace Go.Vs

end Go.Vs

namespace Go.Vs

end Go.Vs

namespace Go.Vs

end Go.Vs

namespace Go.Vs

end Go.Vs

namespace Go.Vs

end Go.Vs

namespace Go.Vs

end Go.Vs

namespace Go.Vs

end Go.Vs

namespace Go.Vs

end Go.Vs

namespace Go.Vs

end Go.Vs

namespace Go.Vs

end Go.Vs

namespace Go.Vs

end Go.Vs

namespace Go.Vs

end Go.Vs

namespace Go.Vs

end Go.Vs

namespace Go.Vs

end Go.Vs

namespace Go.Vs

end Go.Vs

namespace Go.Vs

end Go.Vs

namespace Go.Vs

end Go.Vs
