/- What the functions compute. -/
import Derived.Test.YtanbdmdbfjonhaaMutualLinksClosestEng1
import Derived.Test.YtanbdmdbfjonhaaMutualLinksClosestEng2
import Derived.Lib.Split
import Derived.Lib.Atoi
import Derived.Lib.Join
import Derived.Lib.ItoaNum
set_option linter.unusedVariables false
set_option linter.unusedSimpArgs false
namespace Go.Vs

noncomputable def M.spec_reader_pick (r_0 : (List UInt8) × Int) (n_1 : Int) : Option (Int × ((List UInt8) × Int)) :=
  Option.bind ((bif decide (n_1 < 1) then
  some true
 else
  some ((r_0.1.length : Int) == 0))) fun o5 =>
  (bif o5 then
  some (0, (r_0.1, w64 (r_0.2 + 1)))
 else
  (bif decide ((w64 ((w64 (r_0.2 + 1)) - 1)) < (r_0.1.length : Int)) then
  (gidx r_0.1 (w64 ((w64 (r_0.2 + 1)) - 1))).bind fun x12 =>
  (grem (w64 (x12.toNat : Int)) n_1).bind fun q17 =>
  some (q17, (r_0.1, w64 (r_0.2 + 1)))
 else
  (grem (w64 ((w64 (r_0.2 + 1)) - 1)) (r_0.1.length : Int)).bind fun q19 =>
  (gidx r_0.1 q19).bind fun x21 =>
  (grem (w64 ((w64 ((w64 ((w64 (r_0.2 + 1)) - 1)) * 7)) + 3)) (r_0.1.length : Int)).bind fun q26 =>
  (gidx r_0.1 q26).bind fun x28 =>
  (gquo (w64 ((w64 (r_0.2 + 1)) - 1)) (r_0.1.length : Int)).bind fun q33 =>
  (grem (gxor (w64 ((w64 ((w64 ((w64 ((w64 (x21.toNat : Int)) * 131)) + (w64 ((w64 (x28.toNat : Int)) * 1117)))) + (w64 ((w64 ((w64 (r_0.2 + 1)) - 1)) * 29)))) + (w64 (q33 * 53)))) (w64 ((w64 ((w64 ((w64 ((w64 ((w64 (x21.toNat : Int)) * 131)) + (w64 ((w64 (x28.toNat : Int)) * 1117)))) + (w64 ((w64 ((w64 (r_0.2 + 1)) - 1)) * 29)))) + (w64 (q33 * 53)))).tdiv 64))) n_1).bind fun q36 =>
  some (q36, (r_0.1, w64 (r_0.2 + 1)))))

noncomputable def M.spec_reader_one (r_0 : (List UInt8) × Int) (list_1 : List Int) : Option (Int × ((List UInt8) × Int)) :=
  (M.spec_reader_pick (r_0.1, r_0.2) (list_1.length : Int)).bind fun r1 =>
  (gidx list_1 r1.1).bind fun x9 =>
  some (x9, (r1.2.1, r1.2.2))

noncomputable def M.spec_someCoord (r_0 : (List UInt8) × Int) : Option (Int × ((List UInt8) × Int)) :=
  (M.spec_reader_pick (r_0.1, r_0.2) 201).bind fun r1 =>
  (M.spec_reader_pick (r1.2.1, r1.2.2) 21).bind fun r9 =>
  (M.spec_reader_one (r9.2.1, r9.2.2) ([0, 1, -1, 5, -7, 10, 3, 100, -100, w64 (r1.1 - 100), w64 (r9.1 - 10)] : List Int)).bind fun r27 =>
  some (r27.1, (r27.2.1, r27.2.2))

noncomputable def M.spec_someVector (r_0 : (List UInt8) × Int) : Option ((List Int) × ((List UInt8) × Int)) :=
  Option.bind (loopM (fun (s7 : ((List UInt8) × (Int)) × (List Int) × (Int)) => (bif decide (s7.2.2 < 4) then
  (M.spec_someCoord (s7.1.1, s7.1.2)).bind fun r18 =>
  (gapp s7.2.1 ([r18.1] : List Int)).bind fun xs33 =>
  some (.inl ((r18.2.1, r18.2.2), xs33, w64 (s7.2.2 + 1)))
 else
  some (.inr ((s7.1.1, s7.1.2), s7.2.1)))) ((r_0.1, r_0.2), ([] : List Int), 0)) fun o6 =>
  some (o6.2, (o6.1.1, o6.1.2))

noncomputable def M.spec_copyInts (list_0 : List Int) : Option ((List Int)) :=
  (gapp ([] : List Int) list_0).bind fun xs6 =>
  some xs6

noncomputable def M.spec_reader_spoil (r_0 : (List UInt8) × Int) (list_1 : List Int) (n_2 : Int) : Option ((List Int) × ((List UInt8) × Int)) :=
  (M.spec_copyInts list_1).bind fun r1 =>
  (M.spec_reader_pick (r_0.1, r_0.2) 20).bind fun r8 =>
  Option.bind ((bif r8.1 == 0 then
  (gapp r1 ([n_2] : List Int)).bind fun xs25 =>
  some ((r8.2.1, r8.2.2), xs25)
 else
  (bif r8.1 == 1 then
  (bif decide (0 < (r1.length : Int)) then
  (gslice r1 1 (r1.length : Int)).bind fun xs36 =>
  some ((r8.2.1, r8.2.2), xs36)
 else
  some ((r8.2.1, r8.2.2), r1))
 else
  (bif r8.1 == 2 then
  (bif decide (0 < (r1.length : Int)) then
  (M.spec_reader_pick (r8.2.1, r8.2.2) (r1.length : Int)).bind fun r44 =>
  (M.spec_reader_one (r44.2.1, r44.2.2) ([-1, n_2, 0, 1] : List Int)).bind fun r64 =>
  (gidx r1 r44.1).bind fun x73 =>
  some ((r64.2.1, r64.2.2), (r1.set r44.1.toNat r64.1))
 else
  some ((r8.2.1, r8.2.2), r1))
 else
  some ((r8.2.1, r8.2.2), r1))))) fun o17 =>
  some (o17.2, (o17.1.1, o17.1.2))

noncomputable def M.spec_anyVector (r_0 : (List UInt8) × Int) : Option ((List Int) × ((List UInt8) × Int)) :=
  (M.spec_reader_pick (r_0.1, r_0.2) 10).bind fun r1 =>
  (bif r1.1 == 0 then
  (M.spec_someVector (r1.2.1, r1.2.2)).bind fun r10 =>
  (M.spec_reader_spoil (r10.2.1, r10.2.2) r10.1 101).bind fun r26 =>
  some (r26.1, (r26.2.1, r26.2.2))
 else
  (M.spec_someVector (r1.2.1, r1.2.2)).bind fun r37 =>
  some (r37.1, (r37.2.1, r37.2.2)))

noncomputable def M.spec_newReader (code_0 : List UInt8) : Option (((List UInt8) × Int)) :=
  Option.bind ((bif decide (2000 < (code_0.length : Int)) then
  (gslice code_0 0 2000).bind fun xs3 =>
  some xs3
 else
  some code_0)) fun o1 =>
  some (o1, 0)

noncomputable def M.impl_validCoords (coords_0 : List Int) : Option Bool :=
  Option.bind (loopM (fun (s2 : (Int)) => (bif decide (s2 < (coords_0.length : Int)) then
  (gidx coords_0 s2).bind fun x5 =>
  Option.bind ((bif decide (x5 < (-100)) then
  some true
 else
  some (decide (100 < x5)))) fun o11 =>
  (bif o11 then
  some (.inr (.inr false))
 else
  some (.inl (w64 (s2 + 1))))
 else
  some (.inr (.inl ())))) 0) (selim (fun t15 => some true)
   (fun t17 => some t17))

noncomputable def M.impl_ValidVector (v_0 : List Int) : Option Bool :=
  (bif (v_0.length : Int) == 4 then
  (M.impl_validCoords v_0).bind fun r2 =>
  some r2
 else
  some false)

noncomputable def M.spec_inRange (n_0 : Int) (low_1 : Int) (high_2 : Int) : Option Bool :=
  (bif decide (low_1 ≤ n_0) then
  some (decide (n_0 ≤ high_2))
 else
  some false)

noncomputable def M.spec_allIn (list_0 : List Int) (low_1 : Int) (high_2 : Int) : Option Bool :=
  Option.bind (loopM (fun (s2 : (Int)) => (bif decide (s2 < (list_0.length : Int)) then
  (gidx list_0 s2).bind fun x7 =>
  (M.spec_inRange x7 low_1 high_2).bind fun r12 =>
  (bif !r12 then
  some (.inr (.inr false))
 else
  some (.inl (w64 (s2 + 1))))
 else
  some (.inr (.inl ())))) 0) (selim (fun t17 => some true)
   (fun t19 => some t19))

noncomputable def M.spec_isVector (v_0 : List Int) : Option Bool :=
  (bif (v_0.length : Int) == 4 then
  (M.spec_allIn v_0 (-100) 100).bind fun r2 =>
  some r2
 else
  some false)

noncomputable def M.spec_anyKind (r_0 : (List UInt8) × Int) : Option (Int × ((List UInt8) × Int)) :=
  (M.spec_reader_one (r_0.1, r_0.2) ([1, 2, 3, 4, 1, 2, 3, 4, 1, 2, 0, 5] : List Int)).bind fun r11 =>
  some (r11.1, (r11.2.1, r11.2.2))

noncomputable def M.impl_distanceOf (kind_0 : Int) (gaps_1 : List Int) : Option Int :=
  Option.bind (loopM (fun (s8 : (Int) × (Int)) => (bif decide (s8.2 < 4) then
  Option.bind ((gidx gaps_1 s8.2).bind fun x13 =>
  (bif kind_0 == 1 then
  some (.inl (w64 (s8.1 + x13)))
 else
  (bif kind_0 == 2 then
  some (.inl (max s8.1 x13))
 else
  (bif kind_0 == 3 then
  some (.inl (w64 (s8.1 + (w64 (x13 * x13)))))
 else
  (bif kind_0 == 4 then
  some (.inl (w64 (s8.1 + (min x13 1))))
 else
  some (.inr (-1))))))) (selim (fun t19 => some (.inl (t19, w64 (s8.2 + 1))))
   (fun t21 => some (.inr (.inr t21))))
 else
  some (.inr (.inl s8.1)))) (0, 0)) (selim (fun t23 => some t23)
   (fun t25 => some t25))

noncomputable def M.impl_gapsOf (a_0 : List Int) (b_1 : List Int) : Option ((List Int)) :=
  Option.bind (loopM (fun (s32 : (List Int) × (Int)) => (bif decide (s32.2 < 4) then
  (gidx a_0 s32.2).bind fun x47 =>
  (gidx b_1 s32.2).bind fun x50 =>
  (gidx b_1 s32.2).bind fun x53 =>
  (gidx a_0 s32.2).bind fun x56 =>
  (gidx s32.1 s32.2).bind fun x60 =>
  some (.inl ((s32.1.set s32.2.toNat (max (w64 (x47 - x50)) (w64 (x53 - x56)))), w64 (s32.2 + 1)))
 else
  some (.inr s32.1))) ((List.replicate 4 0), 0)) fun o31 =>
  some o31

noncomputable def M.impl_Distance (kind_0 : Int) (a_1 : List Int) (b_2 : List Int) : Option Int :=
  Option.bind ((M.impl_ValidVector a_1).bind fun r2 =>
  (bif !r2 then
  some true
 else
  (M.impl_ValidVector b_2).bind fun r7 =>
  some (!r7))) fun o1 =>
  (bif o1 then
  some (-1)
 else
  (garr 4 a_1).bind fun xs15 =>
  (garr 4 b_2).bind fun xs22 =>
  (M.impl_gapsOf (List.take 4 a_1) (List.take 4 b_2)).bind fun r29 =>
  (M.impl_distanceOf kind_0 r29).bind fun r33 =>
  some r33)

noncomputable def M.spec_validKind (kind_0 : Int) : Option Bool :=
  (M.spec_inRange kind_0 1 4).bind fun r1 =>
  some r1

noncomputable def M.spec_size (n_0 : Int) : Option Int :=
  some (max n_0 (w64 (0 - n_0)))

noncomputable def M.spec_toInt (b_0 : Bool) : Option Int :=
  (bif b_0 then
  some 1
 else
  some 0)

noncomputable def M.spec_dist (kind_0 : Int) (a_1 : List Int) (b_2 : List Int) : Option Int :=
  Option.bind (loopM (fun (s2 : (Int) × (Int)) => (bif decide (s2.2 < (a_1.length : Int)) then
  Option.bind ((gidx a_1 s2.2).bind fun x9 =>
  (gidx b_2 s2.2).bind fun x14 =>
  (M.spec_size (w64 (x9 - x14))).bind fun r20 =>
  (bif kind_0 == 1 then
  some (w64 (s2.1 + r20))
 else
  (bif kind_0 == 2 then
  some (max s2.1 r20)
 else
  (bif kind_0 == 3 then
  some (w64 (s2.1 + (w64 (r20 * r20))))
 else
  (M.spec_toInt (decide (0 < r20))).bind fun r27 =>
  some (w64 (s2.1 + r27)))))) fun o8 =>
  some (.inl (o8, w64 (s2.2 + 1)))
 else
  some (.inr s2.1))) (0, 0)) fun o1 =>
  some o1

noncomputable def M.laws_equalInts (a_0 : List Int) (b_1 : List Int) : Option Bool :=
  (bif (a_0.length : Int) != (b_1.length : Int) then
  some false
 else
  Option.bind (loopM (fun (s3 : (Int)) => (bif decide (s3 < (a_0.length : Int)) then
  (gidx a_0 s3).bind fun x9 =>
  (gidx b_1 s3).bind fun x14 =>
  (bif x9 != x14 then
  some (.inr (.inr false))
 else
  some (.inl (w64 (s3 + 1))))
 else
  some (.inr (.inl ())))) 0) (selim (fun t21 => some true)
   (fun t23 => some t23)))

noncomputable def M.spec_someItem (r_0 : (List UInt8) × Int) : Option ((Int × (List Int) × Int) × ((List UInt8) × Int)) :=
  (M.spec_reader_pick (r_0.1, r_0.2) 30).bind fun r7 =>
  (M.spec_someVector (r7.2.1, r7.2.2)).bind fun r16 =>
  (M.spec_reader_pick (r16.2.1, r16.2.2) 16).bind fun r29 =>
  some ((w64 (1 + r7.1), r16.1, r29.1), (r29.2.1, r29.2.2))

noncomputable def M.spec_anyItem (r_0 : (List UInt8) × Int) : Option ((Int × (List Int) × Int) × ((List UInt8) × Int)) :=
  (M.spec_someItem (r_0.1, r_0.2)).bind fun r7 =>
  (M.spec_reader_pick (r7.2.1, r7.2.2) 16).bind fun r30 =>
  Option.bind ((bif r30.1 == 0 then
  (M.spec_reader_one (r30.2.1, r30.2.2) ([0, 99, 100] : List Int)).bind fun r54 =>
  some ((r54.2.1, r54.2.2), (r54.1, r7.1.2.1, r7.1.2.2))
 else
  (bif r30.1 == 1 then
  (M.spec_anyVector (r30.2.1, r30.2.2)).bind fun r69 =>
  some ((r69.2.1, r69.2.2), (r7.1.1, r69.1, r7.1.2.2))
 else
  (bif r30.1 == 2 then
  (M.spec_reader_one (r30.2.1, r30.2.2) ([-1, 16] : List Int)).bind fun r106 =>
  some ((r106.2.1, r106.2.2), (r7.1.1, r7.1.2.1, r106.1))
 else
  some ((r30.2.1, r30.2.2), (r7.1.1, r7.1.2.1, r7.1.2.2)))))) fun o40 =>
  some ((o40.2.1, o40.2.2.1, o40.2.2.2), (o40.1.1, o40.1.2))

noncomputable def M.spec_validItem (x_0 : Int × (List Int) × Int) : Option Bool :=
  (M.spec_inRange x_0.1 1 99).bind fun r7 =>
  (bif r7 then
  (M.spec_isVector x_0.2.1).bind fun r13 =>
  (bif r13 then
  (M.spec_inRange x_0.2.2 0 15).bind fun r19 =>
  some r19
 else
  some false)
 else
  some false)

noncomputable def M.spec_validStore (list_0 : List (Int × (List Int) × Int)) : Option Bool :=
  Option.bind (loopM (fun (s2 : (Int)) => (bif decide (s2 < (list_0.length : Int)) then
  Option.bind ((gidx list_0 s2).bind fun x8 =>
  (M.spec_validItem (x8.1, x8.2.1, x8.2.2)).bind fun r19 =>
  (bif !r19 then
  some true
 else
  (bif decide (0 < s2) then
  (gidx list_0 s2).bind fun x24 =>
  (gidx list_0 (w64 (s2 - 1))).bind fun x29 =>
  some (decide (x24.1 ≤ x29.1))
 else
  some false))) fun o7 =>
  (bif o7 then
  some (.inr (.inr false))
 else
  some (.inl (w64 (s2 + 1))))
 else
  some (.inr (.inl ())))) 0) (selim (fun t39 => some (decide ((list_0.length : Int) ≤ 16)))
   (fun t42 => some t42))

noncomputable def M.spec_copyItem (x_0 : Int × (List Int) × Int) : Option ((Int × (List Int) × Int)) :=
  (M.spec_copyInts x_0.2.1).bind fun r14 =>
  some (x_0.1, r14, x_0.2.2)

noncomputable def M.spec_put (list_0 : List (Int × (List Int) × Int)) (x_1 : Int × (List Int) × Int) : Option ((List (Int × (List Int) × Int))) :=
  Option.bind (loopM (fun (s14 : (List (Int × (List Int) × Int)) × (Int)) => (bif decide (s14.2 < (list_0.length : Int)) then
  Option.bind ((gidx list_0 s14.2).bind fun x26 =>
  (bif decide (x26.1 < x_1.1) then
  (gidx list_0 s14.2).bind fun x33 =>
  (M.spec_copyItem (x33.1, x33.2.1, x33.2.2)).bind fun r44 =>
  (gapp s14.1 ([(r44.1, r44.2.1, r44.2.2)] : List (Int × (List Int) × Int))).bind fun xs60 =>
  some xs60
 else
  some s14.1)) fun o25 =>
  some (.inl (o25, w64 (s14.2 + 1)))
 else
  some (.inr s14.1))) (([] : List (Int × (List Int) × Int)), 0)) fun o13 =>
  (M.spec_copyItem (x_1.1, x_1.2.1, x_1.2.2)).bind fun r87 =>
  (gapp o13 ([(r87.1, r87.2.1, r87.2.2)] : List (Int × (List Int) × Int))).bind fun xs103 =>
  Option.bind (loopM (fun (s115 : (List (Int × (List Int) × Int)) × (Int)) => (bif decide (s115.2 < (list_0.length : Int)) then
  Option.bind ((gidx list_0 s115.2).bind fun x127 =>
  (bif decide (x_1.1 < x127.1) then
  (gidx list_0 s115.2).bind fun x134 =>
  (M.spec_copyItem (x134.1, x134.2.1, x134.2.2)).bind fun r145 =>
  (gapp s115.1 ([(r145.1, r145.2.1, r145.2.2)] : List (Int × (List Int) × Int))).bind fun xs161 =>
  some xs161
 else
  some s115.1)) fun o126 =>
  some (.inl (o126, w64 (s115.2 + 1)))
 else
  some (.inr s115.1))) (xs103, 0)) fun o114 =>
  some o114

noncomputable def M.spec_PutItem (list_0 : List (Int × (List Int) × Int)) (x_1 : Int × (List Int) × Int) : Option ((List (Int × (List Int) × Int)) × Bool) :=
  Option.bind ((M.spec_validStore list_0).bind fun r8 =>
  (bif !r8 then
  some true
 else
  (M.spec_validItem (x_1.1, x_1.2.1, x_1.2.2)).bind fun r14 =>
  some (!r14))) fun o7 =>
  (bif o7 then
  some ([], false)
 else
  (M.spec_put list_0 (x_1.1, x_1.2.1, x_1.2.2)).bind fun r24 =>
  (M.spec_validStore r24).bind fun r35 =>
  (bif !r35 then
  some ([], false)
 else
  some (r24, true)))

noncomputable def M.spec_someStore (r_0 : (List UInt8) × Int) : Option ((List (Int × (List Int) × Int)) × ((List UInt8) × Int)) :=
  (M.spec_reader_one (r_0.1, r_0.2) ([4, 6, 8, 3, 1, 0, 20, 12] : List Int)).bind fun r17 =>
  Option.bind (loopM (fun (s27 : ((List UInt8) × (Int)) × (List (Int × (List Int) × Int)) × (Int)) => (bif decide (0 < s27.2.2) then
  Option.bind ((M.spec_someItem (s27.1.1, s27.1.2)).bind fun r39 =>
  (M.spec_PutItem s27.2.1 (r39.1.1, r39.1.2.1, r39.1.2.2)).bind fun r55 =>
  (bif r55.2 then
  some ((r39.2.1, r39.2.2), r55.1)
 else
  some ((r39.2.1, r39.2.2), s27.2.1))) fun o38 =>
  some (.inl ((o38.1.1, o38.1.2), o38.2, w64 (s27.2.2 - 1)))
 else
  some (.inr ((s27.1.1, s27.1.2), s27.2.1)))) ((r17.2.1, r17.2.2), ([] : List (Int × (List Int) × Int)), r17.1)) fun o26 =>
  some (o26.2, (o26.1.1, o26.1.2))

noncomputable def M.spec_anyStore (r_0 : (List UInt8) × Int) : Option ((List (Int × (List Int) × Int)) × ((List UInt8) × Int)) :=
  (M.spec_someStore (r_0.1, r_0.2)).bind fun r1 =>
  (M.spec_reader_pick (r1.2.1, r1.2.2) 20).bind fun r12 =>
  Option.bind ((bif r12.1 == 0 then
  (M.spec_anyItem (r12.2.1, r12.2.2)).bind fun r23 =>
  (gapp r1.1 ([(r23.1.1, r23.1.2.1, r23.1.2.2)] : List (Int × (List Int) × Int))).bind fun xs41 =>
  some ((r23.2.1, r23.2.2), xs41)
 else
  (bif r12.1 == 1 then
  (bif decide (0 < (r1.1.length : Int)) then
  (M.spec_reader_pick (r12.2.1, r12.2.2) (r1.1.length : Int)).bind fun r52 =>
  (M.spec_anyVector (r52.2.1, r52.2.2)).bind fun r61 =>
  (gidx r1.1 r52.1).bind fun x74 =>
  some ((r61.2.1, r61.2.2), (r1.1.set r52.1.toNat (x74.1, r61.1, x74.2.2)))
 else
  some ((r12.2.1, r12.2.2), r1.1))
 else
  some ((r12.2.1, r12.2.2), r1.1)))) fun o21 =>
  some (o21.2, (o21.1.1, o21.1.2))

noncomputable def M.impl_validKey (key_0 : Int) : Option Bool :=
  (bif decide (1 ≤ key_0) then
  some (decide (key_0 ≤ 99))
 else
  some false)

noncomputable def M.impl_validTags (tags_0 : Int) : Option Bool :=
  (bif decide (0 ≤ tags_0) then
  some (decide (tags_0 ≤ 15))
 else
  some false)

noncomputable def M.impl_validItem (x_0 : Int × (List Int) × Int) : Option Bool :=
  (M.impl_validKey x_0.1).bind fun r4 =>
  (bif r4 then
  (M.impl_ValidVector x_0.2.1).bind fun r10 =>
  (bif r10 then
  (M.impl_validTags x_0.2.2).bind fun r16 =>
  some r16
 else
  some false)
 else
  some false)

noncomputable def M.impl_ValidStore (list_0 : List (Int × (List Int) × Int)) : Option Bool :=
  (bif decide (16 < (list_0.length : Int)) then
  some false
 else
  Option.bind (loopM (fun (s3 : (Int) × (Int)) => (bif decide (s3.2 < (list_0.length : Int)) then
  (gidx list_0 s3.2).bind fun x8 =>
  Option.bind ((M.impl_validItem (x8.1, x8.2.1, x8.2.2)).bind fun r30 =>
  (bif !r30 then
  some true
 else
  some (decide (x8.1 ≤ s3.1)))) fun o29 =>
  (bif o29 then
  some (.inr (.inr false))
 else
  some (.inl (x8.1, w64 (s3.2 + 1))))
 else
  some (.inr (.inl ())))) (0, 0)) (selim (fun t41 => some true)
   (fun t43 => some t43)))

noncomputable def M.cmp_isNaN_int (x_0 : Int) : Option Bool :=
  some (x_0 != x_0)

noncomputable def M.cmp_Compare_int (x_0 : Int) (y_1 : Int) : Option Int :=
  (M.cmp_isNaN_int x_0).bind fun r1 =>
  (M.cmp_isNaN_int y_1).bind fun r5 =>
  (bif r1 then
  (bif r5 then
  some 0
 else
  some (-1))
 else
  (bif r5 then
  some 1
 else
  (bif decide (x_0 < y_1) then
  some (-1)
 else
  (bif decide (y_1 < x_0) then
  some 1
 else
  some 0))))

end Go.Vs

namespace Go.Vs

end Go.Vs

namespace Go.Vs

end Go.Vs

namespace Go.Vs

end Go.Vs

namespace Go.Vs

end Go.Vs

namespace Go.Vs

noncomputable def M.impl_keysOf (list_0 : List (Int × (List Int) × Int)) : Option ((List Int)) :=
  (gmake (list_0.length : Int) (0 : Int)).bind fun xs1 =>
  Option.bind (loopM (fun (s8 : (List Int) × (Int)) => (bif decide (s8.2 < (list_0.length : Int)) then
  (gidx list_0 s8.2).bind fun x13 =>
  (gidx s8.1 s8.2).bind fun x27 =>
  some (.inl ((s8.1.set s8.2.toNat x13.1), w64 (s8.2 + 1)))
 else
  some (.inr s8.1))) (xs1, 0)) fun o7 =>
  some o7

noncomputable def M.impl_validKind (kind_0 : Int) : Option Bool :=
  (bif decide (1 ≤ kind_0) then
  some (decide (kind_0 ≤ 4))
 else
  some false)

noncomputable def M.cmp_Or_int (vals_0 : List Int) : Option Int :=
  Option.bind (loopM (fun (s2 : (Int)) => (bif decide (s2 < (vals_0.length : Int)) then
  (gidx vals_0 s2).bind fun x5 =>
  (bif x5 != 0 then
  some (.inr (.inr x5))
 else
  some (.inl (w64 (s2 + 1))))
 else
  some (.inr (.inl ())))) 0) (selim (fun t12 => some 0)
   (fun t14 => some t14))

noncomputable def M.impl_compareHits (a_0 : Int × Int) (b_1 : Int × Int) : Option Int :=
  (M.cmp_Compare_int a_0.2 b_1.2).bind fun r7 =>
  (M.cmp_Compare_int a_0.1 b_1.1).bind fun r13 =>
  (M.cmp_Or_int ([r7, r13] : List Int)).bind fun r21 =>
  some r21

noncomputable def M.impl_hitOf (x_0 : Int × (List Int) × Int) (kind_1 : Int) (at_2 : List Int) : Option ((Int × Int)) :=
  (M.impl_Distance kind_1 x_0.2.1 at_2).bind fun r7 =>
  some (x_0.1, r7)

noncomputable def M.spec_nearer (a_0 : Int × Int) (b_1 : Int × Int) : Option Bool :=
  (bif decide (a_0.2 < b_1.2) then
  some true
 else
  (bif a_0.2 == b_1.2 then
  some (decide (a_0.1 < b_1.1))
 else
  some false))

noncomputable def M.spec_addHit (list_0 : List (Int × Int)) (h_1 : Int × Int) (k_2 : Int) : Option ((List (Int × Int))) :=
  (gapp ([] : List (Int × Int)) list_0).bind fun xs4 =>
  (gapp xs4 ([(h_1.1, h_1.2)] : List (Int × Int))).bind fun xs11 =>
  Option.bind (loopM (fun (s17 : (List (Int × Int)) × (Int)) => Option.bind ((bif decide (0 < s17.2) then
  (gidx s17.1 s17.2).bind fun x22 =>
  (gidx s17.1 (w64 (s17.2 - 1))).bind fun x29 =>
  (M.spec_nearer (x22.1, x22.2) (x29.1, x29.2)).bind fun r37 =>
  some r37
 else
  some false)) fun o20 =>
  (bif o20 then
  (gidx s17.1 s17.2).bind fun x44 =>
  (gidx s17.1 (w64 (s17.2 - 1))).bind fun x54 =>
  (gidx s17.1 s17.2).bind fun x61 =>
  (gidx (s17.1.set s17.2.toNat (x54.1, x54.2)) (w64 (s17.2 - 1))).bind fun x68 =>
  some (.inl (((s17.1.set s17.2.toNat (x54.1, x54.2)).set (w64 (s17.2 - 1)).toNat (x44.1, x44.2)), w64 (s17.2 - 1)))
 else
  some (.inr s17.1))) (xs11, w64 ((xs11.length : Int) - 1))) fun o16 =>
  (gslice o16 0 (min k_2 (o16.length : Int))).bind fun xs76 =>
  some xs76

noncomputable def M.laws_isIn (list_0 : List Int) (n_1 : Int) : Option Bool :=
  Option.bind (loopM (fun (s2 : (Int)) => (bif decide (s2 < (list_0.length : Int)) then
  (gidx list_0 s2).bind fun x5 =>
  (bif x5 == n_1 then
  some (.inr (.inr true))
 else
  some (.inl (w64 (s2 + 1))))
 else
  some (.inr (.inl ())))) 0) (selim (fun t12 => some false)
   (fun t14 => some t14))

noncomputable def M.impl_ClosestPair (list_0 : List (Int × (List Int) × Int)) (kind_1 : Int) : Option (Int × Int × Bool) :=
  Option.bind ((M.impl_ValidStore list_0).bind fun r2 =>
  (bif !r2 then
  some true
 else
  (M.impl_validKind kind_1).bind fun r7 =>
  (bif !r7 then
  some true
 else
  some (decide ((list_0.length : Int) < 2))))) fun o1 =>
  (bif o1 then
  some (0, 0, false)
 else
  Option.bind (loopM (fun (s15 : (Int) × (Int) × (Int) × (Int)) => (bif decide (s15.2.2.2 < (list_0.length : Int)) then
  (gidx list_0 s15.2.2.2).bind fun x18 =>
  (gslice list_0 (w64 (s15.2.2.2 + 1)) (list_0.length : Int)).bind fun xs31 =>
  Option.bind (loopM (fun (s38 : (Int) × (Int) × (Int) × (Int)) => (bif decide (s38.2.2.2 < (xs31.length : Int)) then
  Option.bind ((gidx xs31 s38.2.2.2).bind fun x42 =>
  (M.impl_Distance kind_1 x18.2.1 x42.2.1).bind fun r57 =>
  (bif decide (r57 < s38.2.2.1) then
  some (x18.1, x42.1, r57)
 else
  some (s38.1, s38.2.1, s38.2.2.1))) fun o41 =>
  some (.inl (o41.1, o41.2.1, o41.2.2, w64 (s38.2.2.2 + 1)))
 else
  some (.inr (s38.1, s38.2.1, s38.2.2.1)))) (s15.1, s15.2.1, s15.2.2.1, 0)) fun o37 =>
  some (.inl (o37.1, o37.2.1, o37.2.2, w64 (s15.2.2.2 + 1)))
 else
  some (.inr (s15.1, s15.2.1)))) (0, 0, 1000000, 0)) fun o14 =>
  some (o14.1, o14.2, true))

end Go.Vs

namespace Go.Vs

end Go.Vs

namespace Go.Vs

end Go.Vs

namespace Go.Vs

noncomputable def M.slices_xorshift_Next (r_0 : Int) : Option (Int × Int) :=
  some (gxork .u64 (gxork .u64 (gxork .u64 r_0 (gshl .u64 r_0 13)) (gshr .u64 (gxork .u64 r_0 (gshl .u64 r_0 13)) 7)) (gshl .u64 (gxork .u64 (gxork .u64 r_0 (gshl .u64 r_0 13)) (gshr .u64 (gxork .u64 r_0 (gshl .u64 r_0 13)) 7)) 17), gxork .u64 (gxork .u64 (gxork .u64 r_0 (gshl .u64 r_0 13)) (gshr .u64 (gxork .u64 r_0 (gshl .u64 r_0 13)) 7)) (gshl .u64 (gxork .u64 (gxork .u64 r_0 (gshl .u64 r_0 13)) (gshr .u64 (gxork .u64 r_0 (gshl .u64 r_0 13)) 7)) 17))

end Go.Vs

namespace Go.Vs

noncomputable def M.slices_Clone_impl_Item_impl_Item (s_0 : List (Int × (List Int) × Int)) : Option ((List (Int × (List Int) × Int))) :=
  (gapp ([] : List (Int × (List Int) × Int)) s_0).bind fun xs4 =>
  some xs4

noncomputable def M.impl_sortByDistance_1__p3__p24 (x_0 : Int × (List Int) × Int) (y_1 : Int × (List Int) × Int) (p_2 : Int) (p_3 : List Int) : Option Int :=
  (M.impl_hitOf (x_0.1, x_0.2.1, x_0.2.2) p_2 p_3).bind fun r8 =>
  (M.impl_hitOf (y_1.1, y_1.2.1, y_1.2.2) p_2 p_3).bind fun r15 =>
  (M.impl_compareHits (r8.1, r8.2) (r15.1, r15.2)).bind fun r19 =>
  some r19

noncomputable def M.slices_SortFunc_impl_Item_impl_Item__impl_sortByDistance_1 (x_0 : List (Int × (List Int) × Int)) (cmp_1_0 : Int) (cmp_1_1 : List Int) : Option (List (Int × (List Int) × Int)) :=
  M.sortD (fun x y => M.impl_sortByDistance_1__p3__p24 (x.1, x.2.1, x.2.2) (y.1, y.2.1, y.2.2) cmp_1_0 cmp_1_1) x_0

noncomputable def M.impl_sortByDistance (list_0 : List (Int × (List Int) × Int)) (kind_1 : Int) (at_2 : List Int) : Option ((List (Int × (List Int) × Int))) :=
  (M.slices_Clone_impl_Item_impl_Item list_0).bind fun r5 =>
  (M.slices_SortFunc_impl_Item_impl_Item__impl_sortByDistance_1 r5 kind_1 at_2).bind fun r11 =>
  some r11

noncomputable def M.spec_hit (x_0 : Int × (List Int) × Int) (kind_1 : Int) (at_2 : List Int) : Option ((Int × Int)) :=
  (M.spec_dist kind_1 x_0.2.1 at_2).bind fun r7 =>
  some (x_0.1, r7)

end Go.Vs

namespace Go.Vs

end Go.Vs

namespace Go.Vs

end Go.Vs

namespace Go.Vs

end Go.Vs

namespace Go.Vs

end Go.Vs

namespace Go.Vs

end Go.Vs

namespace Go.Vs

noncomputable def M.laws_equalLists (a_0 : List (List Int)) (b_1 : List (List Int)) : Option Bool :=
  (bif (a_0.length : Int) != (b_1.length : Int) then
  some false
 else
  Option.bind (loopM (fun (s3 : (Int)) => (bif decide (s3 < (a_0.length : Int)) then
  (gidx a_0 s3).bind fun x6 =>
  (gidx b_1 s3).bind fun x16 =>
  (M.laws_equalInts x6 x16).bind fun r28 =>
  (bif !r28 then
  some (.inr (.inr false))
 else
  some (.inl (w64 (s3 + 1))))
 else
  some (.inr (.inl ())))) 0) (selim (fun t33 => some true)
   (fun t35 => some t35)))

end Go.Vs

namespace Go.Vs

noncomputable def M.spec_isIn (list_0 : List Int) (n_1 : Int) : Option Bool :=
  Option.bind (loopM (fun (s2 : (Int)) => (bif decide (s2 < (list_0.length : Int)) then
  (gidx list_0 s2).bind fun x5 =>
  (bif x5 == n_1 then
  some (.inr (.inr true))
 else
  some (.inl (w64 (s2 + 1))))
 else
  some (.inr (.inl ())))) 0) (selim (fun t12 => some false)
   (fun t14 => some t14))

end Go.Vs

namespace Go.Vs

theorem gidx_mid {β : Type} {A B : List β} {e : β} {i : Nat} (h : A.length = i) : gidx (A ++ e :: B) (i : Int) = some e := by
  subst h
  unfold gidx
  rw [if_pos (by omega)]
  simp
theorem set_mid {β : Type} {A B : List β} {e e' : β} {i : Nat} (h : A.length = i) : (A ++ e :: B).set i e' = A ++ e' :: B := by
  subst h
  rw [List.set_append_right _ _ (Nat.le_refl _), Nat.sub_self, List.set_cons_zero]

theorem gslice_nat {α : Type} {xs : List α} {l h : Nat} (h1 : l ≤ h) (h2 : h ≤ xs.length) : gslice xs (l : Int) (h : Int) = some ((xs.take h).drop l) := by
  unfold gslice; rw [if_pos (by omega)]; simp
end Go.Vs

namespace Go.Vs

end Go.Vs

namespace Go.Vs

end Go.Vs

namespace Go.Vs

end Go.Vs

namespace Go.Vs

end Go.Vs

namespace Go.Vs

noncomputable def M.spec_someMany (r_0 : (List UInt8) × Int) : Option (Int × ((List UInt8) × Int)) :=
  (M.spec_reader_one (r_0.1, r_0.2) ([1, 2, 3, 5, 0, 6, 2] : List Int)).bind fun r5 =>
  some (r5.1, (r5.2.1, r5.2.2))

noncomputable def M.spec_DrawLinksOf (code_0 : List UInt8) : Option ((List (Int × (List Int) × Int)) × Int × Int) :=
  (M.spec_newReader code_0).bind fun r1 =>
  (M.spec_anyStore (r1.1, r1.2)).bind fun r8 =>
  (M.spec_anyKind (r8.2.1, r8.2.2)).bind fun r16 =>
  (M.spec_someMany (r16.2.1, r16.2.2)).bind fun r22 =>
  some (r8.1, r16.1, r22.1)

noncomputable def M.spec_links (list_0 : List (Int × (List Int) × Int)) (kind_1 : Int) (many_2 : Int) : Option ((List (List Int))) :=
  Option.bind (loopM (fun (s4 : (List (List Int)) × (Int)) => (bif decide (s4.2 < (list_0.length : Int)) then
  Option.bind (loopM (fun (s12 : (List (Int × Int)) × (Int)) => (bif decide (s12.2 < (list_0.length : Int)) then
  Option.bind ((bif s12.2 != s4.2 then
  (gidx list_0 s12.2).bind fun x19 =>
  (gidx list_0 s4.2).bind fun x29 =>
  (M.spec_hit (x19.1, x19.2.1, x19.2.2) kind_1 x29.2.1).bind fun r39 =>
  (M.spec_addHit s12.1 (r39.1, r39.2) many_2).bind fun r45 =>
  some r45
 else
  some s12.1)) fun o17 =>
  some (.inl (o17, w64 (s12.2 + 1)))
 else
  some (.inr s12.1))) (([] : List (Int × Int)), 0)) fun o11 =>
  Option.bind (loopM (fun (s60 : (List Int) × (Int)) => (bif decide (s60.2 < (o11.length : Int)) then
  (gidx o11 s60.2).bind fun x65 =>
  (gapp s60.1 ([x65.1] : List Int)).bind fun xs73 =>
  some (.inl (xs73, w64 (s60.2 + 1)))
 else
  some (.inr s60.1))) (([] : List Int), 0)) fun o59 =>
  (gapp s4.1 ([o59] : List (List Int))).bind fun xs85 =>
  some (.inl (xs85, w64 (s4.2 + 1)))
 else
  some (.inr s4.1))) (([] : List (List Int)), 0)) fun o3 =>
  some o3

noncomputable def M.spec_LinksOf (list_0 : List (Int × (List Int) × Int)) (kind_1 : Int) (many_2 : Int) : Option ((List (List Int))) :=
  Option.bind ((M.spec_validStore list_0).bind fun r2 =>
  (bif !r2 then
  some true
 else
  (M.spec_validKind kind_1).bind fun r7 =>
  (bif !r7 then
  some true
 else
  (M.spec_inRange many_2 1 5).bind fun r12 =>
  some (!r12)))) fun o1 =>
  (bif o1 then
  some []
 else
  (M.spec_links list_0 kind_1 many_2).bind fun r18 =>
  some r18)

noncomputable def M.spec_DrawMutualLinks (code_0 : List UInt8) : Option ((List (Int × (List Int) × Int)) × Int × Int) :=
  (M.spec_DrawLinksOf code_0).bind fun r1 =>
  some (r1.1, r1.2.1, r1.2.2)

noncomputable def M.spec_MutualLinks (list_0 : List (Int × (List Int) × Int)) (kind_1 : Int) (many_2 : Int) : Option ((List (List Int))) :=
  Option.bind ((M.spec_validStore list_0).bind fun r4 =>
  (bif !r4 then
  some true
 else
  (M.spec_validKind kind_1).bind fun r9 =>
  (bif !r9 then
  some true
 else
  (M.spec_inRange many_2 1 5).bind fun r14 =>
  some (!r14)))) fun o3 =>
  (bif o3 then
  some []
 else
  (M.spec_links list_0 kind_1 many_2).bind fun r20 =>
  Option.bind (loopM (fun (s27 : (List (List Int)) × (Int)) => (bif decide (s27.2 < (list_0.length : Int)) then
  Option.bind (loopM (fun (s33 : (List (List Int)) × (Int)) => (bif decide (s33.2 < (list_0.length : Int)) then
  Option.bind (Option.bind ((gidx r20 s27.2).bind fun x40 =>
  (gidx list_0 s33.2).bind fun x50 =>
  (M.spec_isIn x40 x50.1).bind fun r56 =>
  (bif r56 then
  (gidx r20 s33.2).bind fun x60 =>
  (gidx list_0 s27.2).bind fun x70 =>
  (M.spec_isIn x60 x70.1).bind fun r77 =>
  some r77
 else
  some false)) fun o39 =>
  (bif o39 then
  (gidx list_0 s27.2).bind fun x84 =>
  (gidx list_0 s33.2).bind fun x90 =>
  (gapp s33.1 ([([x84.1, x90.1] : List Int)] : List (List Int))).bind fun xs99 =>
  some xs99
 else
  some s33.1)) fun o38 =>
  some (.inl (o38, w64 (s33.2 + 1)))
 else
  some (.inr s33.1))) (s27.1, w64 (s27.2 + 1))) fun o32 =>
  some (.inl (o32, w64 (s27.2 + 1)))
 else
  some (.inr s27.1))) (([] : List (List Int)), 0)) fun o26 =>
  some o26)

end Go.Vs

namespace Go.Vs

end Go.Vs

namespace Go.Vs

end Go.Vs

namespace Go.Vs

noncomputable def M.impl_validLinks (list_0 : List (Int × (List Int) × Int)) (kind_1 : Int) (many_2 : Int) : Option Bool :=
  (M.impl_ValidStore list_0).bind fun r1 =>
  (bif r1 then
  (M.impl_validKind kind_1).bind fun r6 =>
  (bif r6 then
  (bif decide (1 ≤ many_2) then
  some (decide (many_2 ≤ 5))
 else
  some false)
 else
  some false)
 else
  some false)

noncomputable def M.impl_linkItems_1__p_impl_Item (y_0 : Int × (List Int) × Int) (p_1 : Int × (List Int) × Int) : Option Bool :=
  some (y_0.1 != p_1.1)

noncomputable def M.impl_itemsThat__impl_linkItems_1 (list_0 : List (Int × (List Int) × Int)) (chosen_1_0 : Int × (List Int) × Int) : Option ((List (Int × (List Int) × Int))) :=
  Option.bind (loopM (fun (s2 : (List (Int × (List Int) × Int)) × (Int)) => (bif decide (s2.2 < (list_0.length : Int)) then
  Option.bind ((gidx list_0 s2.2).bind fun x8 =>
  (M.impl_linkItems_1__p_impl_Item (x8.1, x8.2.1, x8.2.2) (chosen_1_0.1, chosen_1_0.2.1, chosen_1_0.2.2)).bind fun r22 =>
  (bif r22 then
  (gapp s2.1 ([(x8.1, x8.2.1, x8.2.2)] : List (Int × (List Int) × Int))).bind fun xs30 =>
  some xs30
 else
  some s2.1)) fun o7 =>
  some (.inl (o7, w64 (s2.2 + 1)))
 else
  some (.inr s2.1))) ([], 0)) fun o1 =>
  some o1

noncomputable def M.impl_linkItems (list_0 : List (Int × (List Int) × Int)) (kind_1 : Int) (many_2 : Int) : Option ((List (Int × (List (Int × (List Int) × Int))))) :=
  Option.bind (loopM (fun (s6 : (List (Int × (List (Int × (List Int) × Int)))) × (Int)) => (bif decide (s6.2 < (list_0.length : Int)) then
  (gidx list_0 s6.2).bind fun x12 =>
  (M.impl_itemsThat__impl_linkItems_1 list_0 (x12.1, x12.2.1, x12.2.2)).bind fun r25 =>
  (M.impl_sortByDistance r25 kind_1 x12.2.1).bind fun r34 =>
  (gslice r34 0 (min many_2 (r34.length : Int))).bind fun xs41 =>
  some (.inl ((mput s6.1 x12.1 xs41), w64 (s6.2 + 1)))
 else
  some (.inr s6.1))) (([] : List (Int × (List (Int × (List Int) × Int)))), 0)) fun o5 =>
  some o5

noncomputable def M.impl_LinksOf (list_0 : List (Int × (List Int) × Int)) (kind_1 : Int) (many_2 : Int) : Option ((List (List Int))) :=
  (M.impl_validLinks list_0 kind_1 many_2).bind fun r1 =>
  (bif !r1 then
  some []
 else
  (M.impl_linkItems list_0 kind_1 many_2).bind fun r6 =>
  (gmake (list_0.length : Int) ([] : List Int)).bind fun xs13 =>
  Option.bind (loopM (fun (s20 : (List (List Int)) × (Int)) => (bif decide (s20.2 < (list_0.length : Int)) then
  (gidx list_0 s20.2).bind fun x27 =>
  (M.impl_keysOf (mget r6 x27.1)).bind fun r46 =>
  (gidx s20.1 s20.2).bind fun x53 =>
  some (.inl ((s20.1.set s20.2.toNat r46), w64 (s20.2 + 1)))
 else
  some (.inr s20.1))) (xs13, 0)) fun o19 =>
  some o19)

noncomputable def M.x_impl_linkMap_lead_1__p3 (x_0 : Int × (List Int) × Int) (p_1 : Int) : Option Bool :=
  some (x_0.1 == p_1)

noncomputable def M.slices_IndexFunc_impl_Item_impl_Item__x_impl_linkMap_lead_1 (s_0 : List (Int × (List Int) × Int)) (f_1_0 : Int) : Option Int :=
  Option.bind (loopM (fun (s2 : (Int)) => (bif decide (s2 < (s_0.length : Int)) then
  (gidx s_0 s2).bind fun x5 =>
  (M.x_impl_linkMap_lead_1__p3 (x5.1, x5.2.1, x5.2.2) f_1_0).bind fun r15 =>
  (bif r15 then
  some (.inr (.inr s2))
 else
  some (.inl (w64 (s2 + 1))))
 else
  some (.inr (.inl ())))) 0) (selim (fun t20 => some (-1))
   (fun t22 => some t22))

noncomputable def M.slices_ContainsFunc_impl_Item_impl_Item__x_impl_linkMap_lead_1 (s_0 : List (Int × (List Int) × Int)) (f_1_0 : Int) : Option Bool :=
  (M.slices_IndexFunc_impl_Item_impl_Item__x_impl_linkMap_lead_1 s_0 f_1_0).bind fun r1 =>
  some (decide (0 ≤ r1))

noncomputable def M.impl_linkMap_lead (links_0 : List (Int × (List (Int × (List Int) × Int)))) (from_1 : Int) (to_2 : Int) : Option Bool :=
  (M.slices_ContainsFunc_impl_Item_impl_Item__x_impl_linkMap_lead_1 (mget links_0 from_1) to_2).bind fun r8 =>
  some r8

noncomputable def M.impl_MutualLinks (list_0 : List (Int × (List Int) × Int)) (kind_1 : Int) (many_2 : Int) : Option ((List (List Int))) :=
  (M.impl_validLinks list_0 kind_1 many_2).bind fun r1 =>
  (bif !r1 then
  some []
 else
  (M.impl_linkItems list_0 kind_1 many_2).bind fun r6 =>
  Option.bind (loopM (fun (s14 : (List (List Int)) × (Int)) => (bif decide (s14.2 < (list_0.length : Int)) then
  (gidx list_0 s14.2).bind fun x21 =>
  (gslice list_0 (w64 (s14.2 + 1)) (list_0.length : Int)).bind fun xs34 =>
  Option.bind (loopM (fun (s41 : (List (List Int)) × (Int)) => (bif decide (s41.2 < (xs34.length : Int)) then
  Option.bind ((gidx xs34 s41.2).bind fun x47 =>
  Option.bind ((M.impl_linkMap_lead r6 x21.1 x47.1).bind fun r63 =>
  (bif r63 then
  (M.impl_linkMap_lead r6 x47.1 x21.1).bind fun r70 =>
  some r70
 else
  some false)) fun o60 =>
  (bif o60 then
  (gapp s41.1 ([([x21.1, x47.1] : List Int)] : List (List Int))).bind fun xs84 =>
  some xs84
 else
  some s41.1)) fun o46 =>
  some (.inl (o46, w64 (s41.2 + 1)))
 else
  some (.inr s41.1))) (s14.1, 0)) fun o40 =>
  some (.inl (o40, w64 (s14.2 + 1)))
 else
  some (.inr s14.1))) ([], 0)) fun o13 =>
  some o13)

noncomputable def M.laws_FnMutualLinksClosest (code_0 : List UInt8) : Option Bool :=
  (bif decide (1048576 < (code_0.length : Int)) then
  some true
 else
  (M.spec_DrawMutualLinks code_0).bind fun r2 =>
  (M.impl_MutualLinks r2.1 r2.2.1 r2.2.2).bind fun r8 =>
  Option.bind ((M.spec_MutualLinks r2.1 r2.2.1 r2.2.2).bind fun r17 =>
  (M.laws_equalLists r8 r17).bind fun r25 =>
  (bif !r25 then
  some true
 else
  (M.impl_LinksOf r2.1 r2.2.1 r2.2.2).bind fun r30 =>
  some (decide ((r30.length : Int) < 2)))) fun o14 =>
  (bif o14 then
  (M.spec_MutualLinks r2.1 r2.2.1 r2.2.2).bind fun r39 =>
  (M.laws_equalLists r8 r39).bind fun r49 =>
  some r49
 else
  (M.impl_ClosestPair r2.1 r2.2.1).bind fun r53 =>
  Option.bind (loopM (fun (s58 : (Bool) × (Int)) => (bif decide (s58.2 < (r8.length : Int)) then
  Option.bind ((bif s58.1 then
  some true
 else
  (gidx r8 s58.2).bind fun x63 =>
  (M.laws_equalInts x63 ([r53.1, r53.2.1] : List Int)).bind fun r77 =>
  some r77)) fun o61 =>
  some (.inl (o61, w64 (s58.2 + 1)))
 else
  some (.inr s58.1))) (false, 0)) fun o57 =>
  (bif r53.2.2 then
  some o57
 else
  some false)))

end Go.Vs

namespace Go.Vs

end Go.Vs

namespace Go.Vs

end Go.Vs

namespace Go.Vs

end Go.Vs

namespace Go.Vs

end Go.Vs

namespace Go.Vs

end Go.Vs

namespace Go.Vs

end Go.Vs

namespace Go.Vs

end Go.Vs

namespace Go.Vs

end Go.Vs

namespace Go.Vs

end Go.Vs

namespace Go.Vs
open Go

/-! ## What the library computes -/
end Go.Vs

namespace Go.Vs

end Go.Vs

namespace Go.Vs

end Go.Vs
