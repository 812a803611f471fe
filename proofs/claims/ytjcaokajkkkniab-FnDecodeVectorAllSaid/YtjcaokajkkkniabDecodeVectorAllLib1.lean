/- What the functions compute. -/
import Derived.Test.YtjcaokajkkkniabDecodeVectorAllEng1
import Derived.Test.YtjcaokajkkkniabDecodeVectorAllEng2
import Derived.Test.YtjcaokajkkkniabDecodeVectorAllSrt1
set_option linter.unusedVariables false
set_option linter.unusedSimpArgs false
namespace Go.Vs

noncomputable def M.spec_reader_pick (r_0 : (List UInt8) × Int) (n_1 : Int) : Option (Int × ((List UInt8) × Int)) :=
  Option.bind ((bif decide (n_1 < 1) then
  some true
 else
  some ((r_0.1.length : Int) == 0))) fun o5 =>
  (bif o5 then
  some (0, (r_0.1, w64 (r_0.2 + 1)))
 else
  (bif decide ((w64 ((w64 (r_0.2 + 1)) - 1)) < (r_0.1.length : Int)) then
  (gidx r_0.1 (w64 ((w64 (r_0.2 + 1)) - 1))).bind fun x12 =>
  (grem (w64 (x12.toNat : Int)) n_1).bind fun q17 =>
  some (q17, (r_0.1, w64 (r_0.2 + 1)))
 else
  (grem (w64 ((w64 (r_0.2 + 1)) - 1)) (r_0.1.length : Int)).bind fun q19 =>
  (gidx r_0.1 q19).bind fun x21 =>
  (grem (w64 ((w64 ((w64 ((w64 (r_0.2 + 1)) - 1)) * 7)) + 3)) (r_0.1.length : Int)).bind fun q26 =>
  (gidx r_0.1 q26).bind fun x28 =>
  (gquo (w64 ((w64 (r_0.2 + 1)) - 1)) (r_0.1.length : Int)).bind fun q33 =>
  (grem (gxor (w64 ((w64 ((w64 ((w64 ((w64 (x21.toNat : Int)) * 131)) + (w64 ((w64 (x28.toNat : Int)) * 1117)))) + (w64 ((w64 ((w64 (r_0.2 + 1)) - 1)) * 29)))) + (w64 (q33 * 53)))) (w64 ((w64 ((w64 ((w64 ((w64 ((w64 (x21.toNat : Int)) * 131)) + (w64 ((w64 (x28.toNat : Int)) * 1117)))) + (w64 ((w64 ((w64 (r_0.2 + 1)) - 1)) * 29)))) + (w64 (q33 * 53)))).tdiv 64))) n_1).bind fun q36 =>
  some (q36, (r_0.1, w64 (r_0.2 + 1)))))

noncomputable def M.spec_reader_one (r_0 : (List UInt8) × Int) (list_1 : List Int) : Option (Int × ((List UInt8) × Int)) :=
  (M.spec_reader_pick (r_0.1, r_0.2) (list_1.length : Int)).bind fun r1 =>
  (gidx list_1 r1.1).bind fun x9 =>
  some (x9, (r1.2.1, r1.2.2))

noncomputable def M.spec_someCoord (r_0 : (List UInt8) × Int) : Option (Int × ((List UInt8) × Int)) :=
  (M.spec_reader_pick (r_0.1, r_0.2) 201).bind fun r1 =>
  (M.spec_reader_pick (r1.2.1, r1.2.2) 21).bind fun r9 =>
  (M.spec_reader_one (r9.2.1, r9.2.2) ([0, 1, -1, 5, -7, 10, 3, 100, -100, w64 (r1.1 - 100), w64 (r9.1 - 10)] : List Int)).bind fun r27 =>
  some (r27.1, (r27.2.1, r27.2.2))

noncomputable def M.spec_copyInts (list_0 : List Int) : Option ((List Int)) :=
  (gapp ([] : List Int) list_0).bind fun xs6 =>
  some xs6

noncomputable def M.spec_reader_spoil (r_0 : (List UInt8) × Int) (list_1 : List Int) (n_2 : Int) : Option ((List Int) × ((List UInt8) × Int)) :=
  (M.spec_copyInts list_1).bind fun r1 =>
  (M.spec_reader_pick (r_0.1, r_0.2) 20).bind fun r8 =>
  Option.bind ((bif r8.1 == 0 then
  (gapp r1 ([n_2] : List Int)).bind fun xs25 =>
  some ((r8.2.1, r8.2.2), xs25)
 else
  (bif r8.1 == 1 then
  (bif decide (0 < (r1.length : Int)) then
  (gslice r1 1 (r1.length : Int)).bind fun xs36 =>
  some ((r8.2.1, r8.2.2), xs36)
 else
  some ((r8.2.1, r8.2.2), r1))
 else
  (bif r8.1 == 2 then
  (bif decide (0 < (r1.length : Int)) then
  (M.spec_reader_pick (r8.2.1, r8.2.2) (r1.length : Int)).bind fun r44 =>
  (M.spec_reader_one (r44.2.1, r44.2.2) ([-1, n_2, 0, 1] : List Int)).bind fun r64 =>
  (gidx r1 r44.1).bind fun x73 =>
  some ((r64.2.1, r64.2.2), (r1.set r44.1.toNat r64.1))
 else
  some ((r8.2.1, r8.2.2), r1))
 else
  some ((r8.2.1, r8.2.2), r1))))) fun o17 =>
  some (o17.2, (o17.1.1, o17.1.2))

noncomputable def M.spec_newReader (code_0 : List UInt8) : Option (((List UInt8) × Int)) :=
  Option.bind ((bif decide (2000 < (code_0.length : Int)) then
  (gslice code_0 0 2000).bind fun xs3 =>
  some xs3
 else
  some code_0)) fun o1 =>
  some (o1, 0)

noncomputable def M.impl_validCoords (coords_0 : List Int) : Option Bool :=
  Option.bind (loopM (fun (s2 : (Int)) => (bif decide (s2 < (coords_0.length : Int)) then
  (gidx coords_0 s2).bind fun x5 =>
  Option.bind ((bif decide (x5 < (-100)) then
  some true
 else
  some (decide (100 < x5)))) fun o11 =>
  (bif o11 then
  some (.inr (.inr false))
 else
  some (.inl (w64 (s2 + 1))))
 else
  some (.inr (.inl ())))) 0) (selim (fun t15 => some true)
   (fun t17 => some t17))

noncomputable def M.spec_inRange (n_0 : Int) (low_1 : Int) (high_2 : Int) : Option Bool :=
  (bif decide (low_1 ≤ n_0) then
  some (decide (n_0 ≤ high_2))
 else
  some false)

noncomputable def M.spec_allIn (list_0 : List Int) (low_1 : Int) (high_2 : Int) : Option Bool :=
  Option.bind (loopM (fun (s2 : (Int)) => (bif decide (s2 < (list_0.length : Int)) then
  (gidx list_0 s2).bind fun x7 =>
  (M.spec_inRange x7 low_1 high_2).bind fun r12 =>
  (bif !r12 then
  some (.inr (.inr false))
 else
  some (.inl (w64 (s2 + 1))))
 else
  some (.inr (.inl ())))) 0) (selim (fun t17 => some true)
   (fun t19 => some t19))

noncomputable def M.laws_equalInts (a_0 : List Int) (b_1 : List Int) : Option Bool :=
  (bif (a_0.length : Int) != (b_1.length : Int) then
  some false
 else
  Option.bind (loopM (fun (s3 : (Int)) => (bif decide (s3 < (a_0.length : Int)) then
  (gidx a_0 s3).bind fun x9 =>
  (gidx b_1 s3).bind fun x14 =>
  (bif x9 != x14 then
  some (.inr (.inr false))
 else
  some (.inl (w64 (s3 + 1))))
 else
  some (.inr (.inl ())))) 0) (selim (fun t21 => some true)
   (fun t23 => some t23)))

end Go.Vs

namespace Go.Vs

end Go.Vs

namespace Go.Vs

end Go.Vs

namespace Go.Vs

end Go.Vs

namespace Go.Vs

end Go.Vs

namespace Go.Vs

end Go.Vs

namespace Go.Vs

end Go.Vs

namespace Go.Vs

end Go.Vs

namespace Go.Vs

end Go.Vs

namespace Go.Vs

end Go.Vs

namespace Go.Vs

end Go.Vs

namespace Go.Vs

end Go.Vs

namespace Go.Vs

end Go.Vs

namespace Go.Vs

end Go.Vs

namespace Go.Vs

end Go.Vs

namespace Go.Vs

end Go.Vs

namespace Go.Vs

end Go.Vs

namespace Go.Vs

end Go.Vs

namespace Go.Vs

noncomputable def M.spec_validHalves (list_0 : List (List Int)) : Option Bool :=
  Option.bind (loopM (fun (s2 : (Int)) => (bif decide (s2 < (list_0.length : Int)) then
  Option.bind ((gidx list_0 s2).bind fun x6 =>
  (bif (x6.length : Int) != 2 then
  some true
 else
  (gidx list_0 s2).bind fun x17 =>
  (M.spec_allIn x17 (-100) 100).bind fun r27 =>
  some (!r27))) fun o5 =>
  (bif o5 then
  some (.inr (.inr false))
 else
  some (.inl (w64 (s2 + 1))))
 else
  some (.inr (.inl ())))) 0) (selim (fun t33 => some true)
   (fun t35 => some t35))

noncomputable def M.spec_validBook (b_0 : (List (List Int)) × (List (List Int))) : Option Bool :=
  (bif (b_0.1.length : Int) == 4 then
  (bif (b_0.2.length : Int) == 4 then
  (M.spec_validHalves b_0.1).bind fun r8 =>
  (bif r8 then
  (M.spec_validHalves b_0.2).bind fun r14 =>
  some r14
 else
  some false)
 else
  some false)
 else
  some false)

noncomputable def M.spec_decode (b_0 : (List (List Int)) × (List (List Int))) (code_1 : Int) : Option ((List Int)) :=
  (gidx b_0.1 (w64 (code_1.tdiv 4))).bind fun x5 =>
  (gapp ([] : List Int) x5).bind fun xs15 =>
  (gidx b_0.2 (code_1.tmod 4)).bind fun x20 =>
  (gapp xs15 x20).bind fun xs31 =>
  some xs31

end Go.Vs

namespace Go.Vs

noncomputable def M.impl_validSide (side_0 : List (List Int)) : Option Bool :=
  (bif (side_0.length : Int) != 4 then
  some false
 else
  Option.bind (loopM (fun (s3 : (Int)) => (bif decide (s3 < (side_0.length : Int)) then
  (gidx side_0 s3).bind fun x6 =>
  Option.bind ((bif (x6.length : Int) != 2 then
  some true
 else
  (M.impl_validCoords x6).bind fun r18 =>
  some (!r18))) fun o16 =>
  (bif o16 then
  some (.inr (.inr false))
 else
  some (.inl (w64 (s3 + 1))))
 else
  some (.inr (.inl ())))) 0) (selim (fun t24 => some true)
   (fun t26 => some t26)))

noncomputable def M.impl_ValidBook (b_0 : (List (List Int)) × (List (List Int))) : Option Bool :=
  (M.impl_validSide b_0.1).bind fun r4 =>
  (bif r4 then
  (M.impl_validSide b_0.2).bind fun r10 =>
  some r10
 else
  some false)

noncomputable def M.slices_Grow_int_int (s_0 : List Int) (n_1 : Int) : Option ((List Int)) :=
  (bif decide (n_1 < 0) then
  none
 else
  Option.bind ((bif decide (0 < (w64 (n_1 - (w64 ((s_0.length : Int) - (s_0.length : Int)))))) then
  (gslice s_0 0 (s_0.length : Int)).bind fun xs4 =>
  (gappz xs4 (w64 (n_1 - (w64 ((s_0.length : Int) - (s_0.length : Int))))) (0 : Int)).bind fun xs10 =>
  (gslice xs10 0 (s_0.length : Int)).bind fun xs15 =>
  some xs15
 else
  some s_0)) fun o2 =>
  some o2)

noncomputable def M.slices_Concat_int_int (slices_0 : List (List Int)) : Option ((List Int)) :=
  Option.bind (loopM (fun (s2 : (Int) × (Int)) => (bif decide (s2.2 < (slices_0.length : Int)) then
  (gidx slices_0 s2.2).bind fun x5 =>
  (bif decide ((w64 (s2.1 + (x5.length : Int))) < 0) then
  none
 else
  some (.inl (w64 (s2.1 + (x5.length : Int)), w64 (s2.2 + 1))))
 else
  some (.inr s2.1))) (0, 0)) fun o1 =>
  (M.slices_Grow_int_int ([] : List Int) o1).bind fun r17 =>
  Option.bind (loopM (fun (s24 : (List Int) × (Int)) => (bif decide (s24.2 < (slices_0.length : Int)) then
  (gidx slices_0 s24.2).bind fun x29 =>
  (gapp s24.1 x29).bind fun xs39 =>
  some (.inl (xs39, w64 (s24.2 + 1)))
 else
  some (.inr s24.1))) (r17, 0)) fun o23 =>
  some o23

noncomputable def M.impl_DecodeVector (b_0 : (List (List Int)) × (List (List Int))) (code_1 : Int) : Option ((List Int)) :=
  Option.bind ((M.impl_ValidBook (b_0.1, b_0.2)).bind fun r5 =>
  (bif !r5 then
  some true
 else
  (bif decide (code_1 < 0) then
  some true
 else
  some (decide (16 ≤ code_1))))) fun o3 =>
  (bif o3 then
  some []
 else
  (gidx b_0.1 (w64 (code_1.tdiv 4))).bind fun x14 =>
  (gidx b_0.2 (code_1.tmod 4)).bind fun x25 =>
  (M.slices_Concat_int_int ([x14, x25] : List (List Int))).bind fun r41 =>
  some r41)

noncomputable def M.spec_someHalves (r_0 : (List UInt8) × Int) : Option ((List (List Int)) × ((List UInt8) × Int)) :=
  Option.bind (loopM (fun (s4 : ((List UInt8) × (Int)) × (List (List Int)) × (Int)) => (bif decide (s4.2.2 < 4) then
  (M.spec_someCoord (s4.1.1, s4.1.2)).bind fun r11 =>
  (M.spec_someCoord (r11.2.1, r11.2.2)).bind fun r17 =>
  (gapp s4.2.1 ([([r11.1, r17.1] : List Int)] : List (List Int))).bind fun xs29 =>
  some (.inl ((r17.2.1, r17.2.2), xs29, w64 (s4.2.2 + 1)))
 else
  some (.inr ((s4.1.1, s4.1.2), s4.2.1)))) ((r_0.1, r_0.2), ([] : List (List Int)), 0)) fun o3 =>
  some (o3.2, (o3.1.1, o3.1.2))

noncomputable def M.spec_anyBook (r_0 : (List UInt8) × Int) : Option (((List (List Int)) × (List (List Int))) × ((List UInt8) × Int)) :=
  (M.spec_someHalves (r_0.1, r_0.2)).bind fun r3 =>
  (M.spec_someHalves (r3.2.1, r3.2.2)).bind fun r11 =>
  (M.spec_reader_pick (r11.2.1, r11.2.2) 24).bind fun r22 =>
  Option.bind ((bif r22.1 == 0 then
  (gslice r3.1 1 (r3.1.length : Int)).bind fun xs31 =>
  some ((r22.2.1, r22.2.2), (xs31, r11.1))
 else
  (bif r22.1 == 1 then
  (M.spec_reader_pick (r22.2.1, r22.2.2) 4).bind fun r41 =>
  (M.spec_reader_spoil (r41.2.1, r41.2.2) ([1, 2] : List Int) 101).bind fun r47 =>
  (gidx r11.1 r41.1).bind fun x55 =>
  some ((r47.2.1, r47.2.2), (r3.1, (r11.1.set r41.1.toNat r47.1)))
 else
  some ((r22.2.1, r22.2.2), (r3.1, r11.1))))) fun o28 =>
  some ((o28.2.1, o28.2.2), (o28.1.1, o28.1.2))

noncomputable def M.spec_DrawDecodeVector (code_0 : List UInt8) : Option (((List (List Int)) × (List (List Int))) × Int) :=
  (M.spec_newReader code_0).bind fun r3 =>
  (M.spec_anyBook (r3.1, r3.2)).bind fun r10 =>
  (M.spec_reader_pick (r10.2.1, r10.2.2) 18).bind fun r24 =>
  some ((r10.1.1, r10.1.2), w64 (r24.1 - 1))

noncomputable def M.spec_DecodeVector (b_0 : (List (List Int)) × (List (List Int))) (code_1 : Int) : Option ((List Int)) :=
  Option.bind ((M.spec_validBook (b_0.1, b_0.2)).bind fun r5 =>
  (bif !r5 then
  some true
 else
  (M.spec_inRange code_1 0 15).bind fun r10 =>
  some (!r10))) fun o3 =>
  (bif o3 then
  some []
 else
  (M.spec_decode (b_0.1, b_0.2) code_1).bind fun r17 =>
  some r17)

noncomputable def M.laws_FnDecodeVectorAll (code_0 : List UInt8) : Option Bool :=
  (bif decide (1048576 < (code_0.length : Int)) then
  some true
 else
  (M.spec_DrawDecodeVector code_0).bind fun r2 =>
  (M.impl_DecodeVector (r2.1.1, r2.1.2) r2.2).bind fun r14 =>
  Option.bind ((M.spec_DecodeVector (r2.1.1, r2.1.2) r2.2).bind fun r22 =>
  (M.laws_equalInts r14 r22).bind fun r30 =>
  (bif !r30 then
  some true
 else
  some ((r14.length : Int) == 0))) fun o20 =>
  (bif o20 then
  (M.spec_DecodeVector (r2.1.1, r2.1.2) r2.2).bind fun r42 =>
  (M.laws_equalInts r14 r42).bind fun r52 =>
  some r52
 else
  (M.impl_DecodeVector (r2.1.1, r2.1.2) ((w64 (r2.2 + 5)).tmod 16)).bind fun r57 =>
  Option.bind ((gidx r2.1.1 (w64 (((w64 (r2.2 + 5)).tmod 16).tdiv 4))).bind fun x65 =>
  (gidx r2.1.1 (w64 (r2.2.tdiv 4))).bind fun x76 =>
  (M.laws_equalInts x65 x76).bind fun r86 =>
  (bif r86 then
  (gidx r2.1.2 (((w64 (r2.2 + 5)).tmod 16).tmod 4)).bind fun x91 =>
  (gidx r2.1.2 (r2.2.tmod 4)).bind fun x102 =>
  (M.laws_equalInts x91 x102).bind fun r113 =>
  some r113
 else
  some false)) fun o63 =>
  (M.laws_equalInts r57 r14).bind fun r123 =>
  some (r123 == o63)))

end Go.Vs

namespace Go.Vs

end Go.Vs

namespace Go.Vs

end Go.Vs
