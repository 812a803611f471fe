/- What the functions compute. -/
import Derived.Test.YtgokepoinohioabMoveToSameEng1
import Derived.Test.YtgokepoinohioabMoveToSameEng2
set_option linter.unusedVariables false
set_option linter.unusedSimpArgs false
namespace Go.Vs

noncomputable def M.spec_reader_pick (r_0 : (List UInt8) × Int) (n_1 : Int) : Option (Int × ((List UInt8) × Int)) :=
  Option.bind ((bif decide (n_1 < 1) then
  some true
 else
  some ((r_0.1.length : Int) == 0))) fun o5 =>
  (bif o5 then
  some (0, (r_0.1, w64 (r_0.2 + 1)))
 else
  (bif decide ((w64 ((w64 (r_0.2 + 1)) - 1)) < (r_0.1.length : Int)) then
  (gidx r_0.1 (w64 ((w64 (r_0.2 + 1)) - 1))).bind fun x12 =>
  (grem (w64 (x12.toNat : Int)) n_1).bind fun q17 =>
  some (q17, (r_0.1, w64 (r_0.2 + 1)))
 else
  (grem (w64 ((w64 (r_0.2 + 1)) - 1)) (r_0.1.length : Int)).bind fun q19 =>
  (gidx r_0.1 q19).bind fun x21 =>
  (grem (w64 ((w64 ((w64 ((w64 (r_0.2 + 1)) - 1)) * 7)) + 3)) (r_0.1.length : Int)).bind fun q26 =>
  (gidx r_0.1 q26).bind fun x28 =>
  (gquo (w64 ((w64 (r_0.2 + 1)) - 1)) (r_0.1.length : Int)).bind fun q33 =>
  (grem (gxor (w64 ((w64 ((w64 ((w64 ((w64 (x21.toNat : Int)) * 131)) + (w64 ((w64 (x28.toNat : Int)) * 1117)))) + (w64 ((w64 ((w64 (r_0.2 + 1)) - 1)) * 29)))) + (w64 (q33 * 53)))) (w64 ((w64 ((w64 ((w64 ((w64 ((w64 (x21.toNat : Int)) * 131)) + (w64 ((w64 (x28.toNat : Int)) * 1117)))) + (w64 ((w64 ((w64 (r_0.2 + 1)) - 1)) * 29)))) + (w64 (q33 * 53)))).tdiv 64))) n_1).bind fun q36 =>
  some (q36, (r_0.1, w64 (r_0.2 + 1)))))

noncomputable def M.spec_reader_one (r_0 : (List UInt8) × Int) (list_1 : List Int) : Option (Int × ((List UInt8) × Int)) :=
  (M.spec_reader_pick (r_0.1, r_0.2) (list_1.length : Int)).bind fun r1 =>
  (gidx list_1 r1.1).bind fun x9 =>
  some (x9, (r1.2.1, r1.2.2))

noncomputable def M.spec_someCoord (r_0 : (List UInt8) × Int) : Option (Int × ((List UInt8) × Int)) :=
  (M.spec_reader_pick (r_0.1, r_0.2) 201).bind fun r1 =>
  (M.spec_reader_pick (r1.2.1, r1.2.2) 21).bind fun r9 =>
  (M.spec_reader_one (r9.2.1, r9.2.2) ([0, 1, -1, 5, -7, 10, 3, 100, -100, w64 (r1.1 - 100), w64 (r9.1 - 10)] : List Int)).bind fun r27 =>
  some (r27.1, (r27.2.1, r27.2.2))

noncomputable def M.spec_someVector (r_0 : (List UInt8) × Int) : Option ((List Int) × ((List UInt8) × Int)) :=
  Option.bind (loopM (fun (s7 : ((List UInt8) × (Int)) × (List Int) × (Int)) => (bif decide (s7.2.2 < 4) then
  (M.spec_someCoord (s7.1.1, s7.1.2)).bind fun r18 =>
  (gapp s7.2.1 ([r18.1] : List Int)).bind fun xs33 =>
  some (.inl ((r18.2.1, r18.2.2), xs33, w64 (s7.2.2 + 1)))
 else
  some (.inr ((s7.1.1, s7.1.2), s7.2.1)))) ((r_0.1, r_0.2), ([] : List Int), 0)) fun o6 =>
  some (o6.2, (o6.1.1, o6.1.2))

noncomputable def M.spec_copyInts (list_0 : List Int) : Option ((List Int)) :=
  (gapp ([] : List Int) list_0).bind fun xs6 =>
  some xs6

noncomputable def M.spec_reader_spoil (r_0 : (List UInt8) × Int) (list_1 : List Int) (n_2 : Int) : Option ((List Int) × ((List UInt8) × Int)) :=
  (M.spec_copyInts list_1).bind fun r1 =>
  (M.spec_reader_pick (r_0.1, r_0.2) 20).bind fun r8 =>
  Option.bind ((bif r8.1 == 0 then
  (gapp r1 ([n_2] : List Int)).bind fun xs25 =>
  some ((r8.2.1, r8.2.2), xs25)
 else
  (bif r8.1 == 1 then
  (bif decide (0 < (r1.length : Int)) then
  (gslice r1 1 (r1.length : Int)).bind fun xs36 =>
  some ((r8.2.1, r8.2.2), xs36)
 else
  some ((r8.2.1, r8.2.2), r1))
 else
  (bif r8.1 == 2 then
  (bif decide (0 < (r1.length : Int)) then
  (M.spec_reader_pick (r8.2.1, r8.2.2) (r1.length : Int)).bind fun r44 =>
  (M.spec_reader_one (r44.2.1, r44.2.2) ([-1, n_2, 0, 1] : List Int)).bind fun r64 =>
  (gidx r1 r44.1).bind fun x73 =>
  some ((r64.2.1, r64.2.2), (r1.set r44.1.toNat r64.1))
 else
  some ((r8.2.1, r8.2.2), r1))
 else
  some ((r8.2.1, r8.2.2), r1))))) fun o17 =>
  some (o17.2, (o17.1.1, o17.1.2))

noncomputable def M.spec_anyVector (r_0 : (List UInt8) × Int) : Option ((List Int) × ((List UInt8) × Int)) :=
  (M.spec_reader_pick (r_0.1, r_0.2) 10).bind fun r1 =>
  (bif r1.1 == 0 then
  (M.spec_someVector (r1.2.1, r1.2.2)).bind fun r10 =>
  (M.spec_reader_spoil (r10.2.1, r10.2.2) r10.1 101).bind fun r26 =>
  some (r26.1, (r26.2.1, r26.2.2))
 else
  (M.spec_someVector (r1.2.1, r1.2.2)).bind fun r37 =>
  some (r37.1, (r37.2.1, r37.2.2)))

noncomputable def M.spec_newReader (code_0 : List UInt8) : Option (((List UInt8) × Int)) :=
  Option.bind ((bif decide (2000 < (code_0.length : Int)) then
  (gslice code_0 0 2000).bind fun xs3 =>
  some xs3
 else
  some code_0)) fun o1 =>
  some (o1, 0)

noncomputable def M.impl_validCoords (coords_0 : List Int) : Option Bool :=
  Option.bind (loopM (fun (s2 : (Int)) => (bif decide (s2 < (coords_0.length : Int)) then
  (gidx coords_0 s2).bind fun x5 =>
  Option.bind ((bif decide (x5 < (-100)) then
  some true
 else
  some (decide (100 < x5)))) fun o11 =>
  (bif o11 then
  some (.inr (.inr false))
 else
  some (.inl (w64 (s2 + 1))))
 else
  some (.inr (.inl ())))) 0) (selim (fun t15 => some true)
   (fun t17 => some t17))

noncomputable def M.impl_ValidVector (v_0 : List Int) : Option Bool :=
  (bif (v_0.length : Int) == 4 then
  (M.impl_validCoords v_0).bind fun r2 =>
  some r2
 else
  some false)

noncomputable def M.spec_inRange (n_0 : Int) (low_1 : Int) (high_2 : Int) : Option Bool :=
  (bif decide (low_1 ≤ n_0) then
  some (decide (n_0 ≤ high_2))
 else
  some false)

noncomputable def M.spec_allIn (list_0 : List Int) (low_1 : Int) (high_2 : Int) : Option Bool :=
  Option.bind (loopM (fun (s2 : (Int)) => (bif decide (s2 < (list_0.length : Int)) then
  (gidx list_0 s2).bind fun x7 =>
  (M.spec_inRange x7 low_1 high_2).bind fun r12 =>
  (bif !r12 then
  some (.inr (.inr false))
 else
  some (.inl (w64 (s2 + 1))))
 else
  some (.inr (.inl ())))) 0) (selim (fun t17 => some true)
   (fun t19 => some t19))

noncomputable def M.spec_isVector (v_0 : List Int) : Option Bool :=
  (bif (v_0.length : Int) == 4 then
  (M.spec_allIn v_0 (-100) 100).bind fun r2 =>
  some r2
 else
  some false)

noncomputable def M.laws_equalInts (a_0 : List Int) (b_1 : List Int) : Option Bool :=
  (bif (a_0.length : Int) != (b_1.length : Int) then
  some false
 else
  Option.bind (loopM (fun (s3 : (Int)) => (bif decide (s3 < (a_0.length : Int)) then
  (gidx a_0 s3).bind fun x9 =>
  (gidx b_1 s3).bind fun x14 =>
  (bif x9 != x14 then
  some (.inr (.inr false))
 else
  some (.inl (w64 (s3 + 1))))
 else
  some (.inr (.inl ())))) 0) (selim (fun t21 => some true)
   (fun t23 => some t23)))

noncomputable def M.impl_divideDown (n_0 : Int) (by_1 : Int) : Option Int :=
  (gquo n_0 by_1).bind fun q1 =>
  (grem n_0 by_1).bind fun q3 =>
  Option.bind ((bif decide (q3 < 0) then
  some (w64 (q1 - 1))
 else
  some q1)) fun o5 =>
  some o5

noncomputable def M.spec_floorDiv (a_0 : Int) (b_1 : Int) : Option Int :=
  (gquo a_0 b_1).bind fun q1 =>
  (grem a_0 b_1).bind fun q3 =>
  Option.bind ((bif decide (q3 < 0) then
  some (w64 (q1 - 1))
 else
  some q1)) fun o5 =>
  some o5

noncomputable def M.spec_DrawMoveTo (code_0 : List UInt8) : Option ((List Int) × (List Int) × Int) :=
  (M.spec_newReader code_0).bind fun r1 =>
  (M.spec_anyVector (r1.1, r1.2)).bind fun r11 =>
  (M.spec_anyVector (r11.2.1, r11.2.2)).bind fun r24 =>
  (M.spec_reader_one (r24.2.1, r24.2.2) ([0, 500, 1000, 333, 1, 1001, -1] : List Int)).bind fun r52 =>
  some (r11.1, r24.1, r52.1)

noncomputable def M.impl_MoveTo (a_0 : List Int) (b_1 : List Int) (part_2 : Int) : Option ((List Int)) :=
  Option.bind ((M.impl_ValidVector a_0).bind fun r2 =>
  (bif !r2 then
  some true
 else
  (M.impl_ValidVector b_1).bind fun r7 =>
  (bif !r7 then
  some true
 else
  (bif decide (part_2 < 0) then
  some true
 else
  some (decide (1000 < part_2)))))) fun o1 =>
  (bif o1 then
  some []
 else
  Option.bind (loopM (fun (s24 : (List Int) × (Int)) => (bif decide (s24.2 < 4) then
  (gidx a_0 s24.2).bind fun x32 =>
  (gidx b_1 s24.2).bind fun x37 =>
  (gidx a_0 s24.2).bind fun x42 =>
  (M.impl_divideDown (w64 ((w64 (x37 - x42)) * part_2)) 1000).bind fun r47 =>
  (gidx s24.1 s24.2).bind fun x50 =>
  some (.inl ((s24.1.set s24.2.toNat (w64 (x32 + r47))), w64 (s24.2 + 1)))
 else
  some (.inr s24.1))) ((List.replicate 4 0), 0)) fun o23 =>
  some o23)

noncomputable def M.spec_MoveTo (a_0 : List Int) (b_1 : List Int) (part_2 : Int) : Option ((List Int)) :=
  Option.bind ((M.spec_isVector a_0).bind fun r7 =>
  (bif !r7 then
  some true
 else
  (M.spec_isVector b_1).bind fun r13 =>
  (bif !r13 then
  some true
 else
  (M.spec_inRange part_2 0 1000).bind fun r19 =>
  some (!r19)))) fun o6 =>
  (bif o6 then
  some []
 else
  Option.bind (loopM (fun (s30 : (List Int) × (Int)) => (bif decide (s30.2 < 4) then
  (gidx a_0 s30.2).bind fun x39 =>
  (gidx b_1 s30.2).bind fun x44 =>
  (gidx a_0 s30.2).bind fun x49 =>
  (M.spec_floorDiv (w64 ((w64 (x44 - x49)) * part_2)) 1000).bind fun r54 =>
  (gapp s30.1 ([w64 (x39 + r54)] : List Int)).bind fun xs62 =>
  some (.inl (xs62, w64 (s30.2 + 1)))
 else
  some (.inr s30.1))) (([] : List Int), 0)) fun o29 =>
  some o29)

end Go.Vs

namespace Go.Vs

noncomputable def M.laws_FnMoveToSame (code_0 : List UInt8) : Option Bool :=
  (bif decide (1048576 < (code_0.length : Int)) then
  some true
 else
  (M.spec_DrawMoveTo code_0).bind fun r2 =>
  (M.impl_MoveTo r2.1 r2.2.1 r2.2.2).bind fun r21 =>
  Option.bind ((M.spec_MoveTo r2.1 r2.2.1 r2.2.2).bind fun r46 =>
  (M.laws_equalInts r21 r46).bind fun r72 =>
  (bif !r72 then
  some true
 else
  some ((r21.length : Int) == 0))) fun o37 =>
  (bif o37 then
  (M.spec_MoveTo r2.1 r2.2.1 r2.2.2).bind fun r104 =>
  (M.laws_equalInts r21 r104).bind fun r123 =>
  some r123
 else
  (M.impl_MoveTo r2.1 r2.1 r2.2.2).bind fun r131 =>
  (M.laws_equalInts r131 r2.1).bind fun r157 =>
  (bif r157 then
  (M.impl_ValidVector r21).bind fun r168 =>
  some r168
 else
  some false)))

end Go.Vs

namespace Go.Vs

end Go.Vs

namespace Go.Vs

end Go.Vs

namespace Go.Vs

end Go.Vs

namespace Go.Vs

end Go.Vs

namespace Go.Vs

end Go.Vs

namespace Go.Vs

end Go.Vs

namespace Go.Vs

end Go.Vs

namespace Go.Vs

end Go.Vs

namespace Go.Vs

end Go.Vs

namespace Go.Vs

end Go.Vs

namespace Go.Vs

end Go.Vs

namespace Go.Vs

end Go.Vs

namespace Go.Vs

end Go.Vs

namespace Go.Vs

end Go.Vs

namespace Go.Vs

end Go.Vs

namespace Go.Vs

end Go.Vs

namespace Go.Vs

end Go.Vs

namespace Go.Vs

end Go.Vs

namespace Go.Vs

end Go.Vs

namespace Go.Vs

end Go.Vs

namespace Go.Vs

end Go.Vs

namespace Go.Vs

end Go.Vs

namespace Go.Vs

end Go.Vs

namespace Go.Vs

end Go.Vs

namespace Go.Vs

end Go.Vs

namespace Go.Vs

end Go.Vs

namespace Go.Vs

end Go.Vs

namespace Go.Vs

end Go.Vs

namespace Go.Vs

end Go.Vs

namespace Go.Vs

end Go.Vs

namespace Go.Vs

end Go.Vs
