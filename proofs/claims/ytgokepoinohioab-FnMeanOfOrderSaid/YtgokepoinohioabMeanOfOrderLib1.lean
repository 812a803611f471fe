/- What the functions compute. -/
import Derived.Test.YtgokepoinohioabMeanOfOrderEng1
set_option linter.unusedVariables false
set_option linter.unusedSimpArgs false
namespace Go.Vs

noncomputable def M.spec_reader_pick (r_0 : (List UInt8) × Int) (n_1 : Int) : Option (Int × ((List UInt8) × Int)) :=
  Option.bind ((bif decide (n_1 < 1) then
  some true
 else
  some ((r_0.1.length : Int) == 0))) fun o5 =>
  (bif o5 then
  some (0, (r_0.1, w64 (r_0.2 + 1)))
 else
  (bif decide ((w64 ((w64 (r_0.2 + 1)) - 1)) < (r_0.1.length : Int)) then
  (gidx r_0.1 (w64 ((w64 (r_0.2 + 1)) - 1))).bind fun x12 =>
  (grem (w64 (x12.toNat : Int)) n_1).bind fun q17 =>
  some (q17, (r_0.1, w64 (r_0.2 + 1)))
 else
  (grem (w64 ((w64 (r_0.2 + 1)) - 1)) (r_0.1.length : Int)).bind fun q19 =>
  (gidx r_0.1 q19).bind fun x21 =>
  (grem (w64 ((w64 ((w64 ((w64 (r_0.2 + 1)) - 1)) * 7)) + 3)) (r_0.1.length : Int)).bind fun q26 =>
  (gidx r_0.1 q26).bind fun x28 =>
  (gquo (w64 ((w64 (r_0.2 + 1)) - 1)) (r_0.1.length : Int)).bind fun q33 =>
  (grem (gxor (w64 ((w64 ((w64 ((w64 ((w64 (x21.toNat : Int)) * 131)) + (w64 ((w64 (x28.toNat : Int)) * 1117)))) + (w64 ((w64 ((w64 (r_0.2 + 1)) - 1)) * 29)))) + (w64 (q33 * 53)))) (w64 ((w64 ((w64 ((w64 ((w64 ((w64 (x21.toNat : Int)) * 131)) + (w64 ((w64 (x28.toNat : Int)) * 1117)))) + (w64 ((w64 ((w64 (r_0.2 + 1)) - 1)) * 29)))) + (w64 (q33 * 53)))).tdiv 64))) n_1).bind fun q36 =>
  some (q36, (r_0.1, w64 (r_0.2 + 1)))))

noncomputable def M.spec_reader_one (r_0 : (List UInt8) × Int) (list_1 : List Int) : Option (Int × ((List UInt8) × Int)) :=
  (M.spec_reader_pick (r_0.1, r_0.2) (list_1.length : Int)).bind fun r1 =>
  (gidx list_1 r1.1).bind fun x9 =>
  some (x9, (r1.2.1, r1.2.2))

noncomputable def M.spec_someCoord (r_0 : (List UInt8) × Int) : Option (Int × ((List UInt8) × Int)) :=
  (M.spec_reader_pick (r_0.1, r_0.2) 201).bind fun r1 =>
  (M.spec_reader_pick (r1.2.1, r1.2.2) 21).bind fun r9 =>
  (M.spec_reader_one (r9.2.1, r9.2.2) ([0, 1, -1, 5, -7, 10, 3, 100, -100, w64 (r1.1 - 100), w64 (r9.1 - 10)] : List Int)).bind fun r27 =>
  some (r27.1, (r27.2.1, r27.2.2))

noncomputable def M.spec_someVector (r_0 : (List UInt8) × Int) : Option ((List Int) × ((List UInt8) × Int)) :=
  Option.bind (loopM (fun (s7 : ((List UInt8) × (Int)) × (List Int) × (Int)) => (bif decide (s7.2.2 < 4) then
  (M.spec_someCoord (s7.1.1, s7.1.2)).bind fun r18 =>
  (gapp s7.2.1 ([r18.1] : List Int)).bind fun xs33 =>
  some (.inl ((r18.2.1, r18.2.2), xs33, w64 (s7.2.2 + 1)))
 else
  some (.inr ((s7.1.1, s7.1.2), s7.2.1)))) ((r_0.1, r_0.2), ([] : List Int), 0)) fun o6 =>
  some (o6.2, (o6.1.1, o6.1.2))

noncomputable def M.spec_copyInts (list_0 : List Int) : Option ((List Int)) :=
  (gapp ([] : List Int) list_0).bind fun xs6 =>
  some xs6

noncomputable def M.spec_reader_spoil (r_0 : (List UInt8) × Int) (list_1 : List Int) (n_2 : Int) : Option ((List Int) × ((List UInt8) × Int)) :=
  (M.spec_copyInts list_1).bind fun r1 =>
  (M.spec_reader_pick (r_0.1, r_0.2) 20).bind fun r8 =>
  Option.bind ((bif r8.1 == 0 then
  (gapp r1 ([n_2] : List Int)).bind fun xs25 =>
  some ((r8.2.1, r8.2.2), xs25)
 else
  (bif r8.1 == 1 then
  (bif decide (0 < (r1.length : Int)) then
  (gslice r1 1 (r1.length : Int)).bind fun xs36 =>
  some ((r8.2.1, r8.2.2), xs36)
 else
  some ((r8.2.1, r8.2.2), r1))
 else
  (bif r8.1 == 2 then
  (bif decide (0 < (r1.length : Int)) then
  (M.spec_reader_pick (r8.2.1, r8.2.2) (r1.length : Int)).bind fun r44 =>
  (M.spec_reader_one (r44.2.1, r44.2.2) ([-1, n_2, 0, 1] : List Int)).bind fun r64 =>
  (gidx r1 r44.1).bind fun x73 =>
  some ((r64.2.1, r64.2.2), (r1.set r44.1.toNat r64.1))
 else
  some ((r8.2.1, r8.2.2), r1))
 else
  some ((r8.2.1, r8.2.2), r1))))) fun o17 =>
  some (o17.2, (o17.1.1, o17.1.2))

noncomputable def M.spec_anyVector (r_0 : (List UInt8) × Int) : Option ((List Int) × ((List UInt8) × Int)) :=
  (M.spec_reader_pick (r_0.1, r_0.2) 10).bind fun r1 =>
  (bif r1.1 == 0 then
  (M.spec_someVector (r1.2.1, r1.2.2)).bind fun r10 =>
  (M.spec_reader_spoil (r10.2.1, r10.2.2) r10.1 101).bind fun r26 =>
  some (r26.1, (r26.2.1, r26.2.2))
 else
  (M.spec_someVector (r1.2.1, r1.2.2)).bind fun r37 =>
  some (r37.1, (r37.2.1, r37.2.2)))

noncomputable def M.spec_newReader (code_0 : List UInt8) : Option (((List UInt8) × Int)) :=
  Option.bind ((bif decide (2000 < (code_0.length : Int)) then
  (gslice code_0 0 2000).bind fun xs3 =>
  some xs3
 else
  some code_0)) fun o1 =>
  some (o1, 0)

noncomputable def M.impl_validCoords (coords_0 : List Int) : Option Bool :=
  Option.bind (loopM (fun (s2 : (Int)) => (bif decide (s2 < (coords_0.length : Int)) then
  (gidx coords_0 s2).bind fun x5 =>
  Option.bind ((bif decide (x5 < (-100)) then
  some true
 else
  some (decide (100 < x5)))) fun o11 =>
  (bif o11 then
  some (.inr (.inr false))
 else
  some (.inl (w64 (s2 + 1))))
 else
  some (.inr (.inl ())))) 0) (selim (fun t15 => some true)
   (fun t17 => some t17))

noncomputable def M.impl_ValidVector (v_0 : List Int) : Option Bool :=
  (bif (v_0.length : Int) == 4 then
  (M.impl_validCoords v_0).bind fun r2 =>
  some r2
 else
  some false)

noncomputable def M.spec_inRange (n_0 : Int) (low_1 : Int) (high_2 : Int) : Option Bool :=
  (bif decide (low_1 ≤ n_0) then
  some (decide (n_0 ≤ high_2))
 else
  some false)

noncomputable def M.spec_allIn (list_0 : List Int) (low_1 : Int) (high_2 : Int) : Option Bool :=
  Option.bind (loopM (fun (s2 : (Int)) => (bif decide (s2 < (list_0.length : Int)) then
  (gidx list_0 s2).bind fun x7 =>
  (M.spec_inRange x7 low_1 high_2).bind fun r12 =>
  (bif !r12 then
  some (.inr (.inr false))
 else
  some (.inl (w64 (s2 + 1))))
 else
  some (.inr (.inl ())))) 0) (selim (fun t17 => some true)
   (fun t19 => some t19))

noncomputable def M.spec_isVector (v_0 : List Int) : Option Bool :=
  (bif (v_0.length : Int) == 4 then
  (M.spec_allIn v_0 (-100) 100).bind fun r2 =>
  some r2
 else
  some false)

noncomputable def M.laws_equalInts (a_0 : List Int) (b_1 : List Int) : Option Bool :=
  (bif (a_0.length : Int) != (b_1.length : Int) then
  some false
 else
  Option.bind (loopM (fun (s3 : (Int)) => (bif decide (s3 < (a_0.length : Int)) then
  (gidx a_0 s3).bind fun x9 =>
  (gidx b_1 s3).bind fun x14 =>
  (bif x9 != x14 then
  some (.inr (.inr false))
 else
  some (.inl (w64 (s3 + 1))))
 else
  some (.inr (.inl ())))) 0) (selim (fun t21 => some true)
   (fun t23 => some t23)))

noncomputable def M.spec_DrawMeanOf (code_0 : List UInt8) : Option ((List (List Int))) :=
  (M.spec_newReader code_0).bind fun r1 =>
  (M.spec_reader_one (r1.1, r1.2) ([3, 2, 4, 1, 0, 16, 17] : List Int)).bind fun r29 =>
  Option.bind (loopM (fun (s40 : ((List UInt8) × (Int)) × (List (List Int)) × (Int)) => (bif decide (0 < s40.2.2) then
  (M.spec_someVector (s40.1.1, s40.1.2)).bind fun r52 =>
  (gapp s40.2.1 ([r52.1] : List (List Int))).bind fun xs79 =>
  some (.inl ((r52.2.1, r52.2.2), xs79, w64 (s40.2.2 - 1)))
 else
  some (.inr ((s40.1.1, s40.1.2), s40.2.1)))) ((r29.2.1, r29.2.2), ([] : List (List Int)), r29.1)) fun o39 =>
  (M.spec_reader_pick (o39.1.1, o39.1.2) 12).bind fun r99 =>
  Option.bind ((bif r99.1 == 0 then
  (M.spec_anyVector (r99.2.1, r99.2.2)).bind fun r111 =>
  (gapp o39.2 ([r111.1] : List (List Int))).bind fun xs137 =>
  some xs137
 else
  some o39.2)) fun o109 =>
  some o109

noncomputable def M.impl_divideDown (n_0 : Int) (by_1 : Int) : Option Int :=
  (gquo n_0 by_1).bind fun q1 =>
  (grem n_0 by_1).bind fun q3 =>
  Option.bind ((bif decide (q3 < 0) then
  some (w64 (q1 - 1))
 else
  some q1)) fun o5 =>
  some o5

noncomputable def M.impl_validVectors (list_0 : List (List Int)) (most_1 : Int) : Option Bool :=
  Option.bind ((bif decide ((list_0.length : Int) < 1) then
  some true
 else
  some (decide (most_1 < (list_0.length : Int))))) fun o1 =>
  (bif o1 then
  some false
 else
  Option.bind (loopM (fun (s6 : (Int)) => (bif decide (s6 < (list_0.length : Int)) then
  (gidx list_0 s6).bind fun x9 =>
  (M.impl_ValidVector x9).bind fun r19 =>
  (bif !r19 then
  some (.inr (.inr false))
 else
  some (.inl (w64 (s6 + 1))))
 else
  some (.inr (.inl ())))) 0) (selim (fun t24 => some true)
   (fun t26 => some t26)))

noncomputable def M.impl_MeanOf (list_0 : List (List Int)) : Option ((List Int)) :=
  (M.impl_validVectors list_0 16).bind fun r1 =>
  (bif !r1 then
  some []
 else
  Option.bind (loopM (fun (s9 : (List Int) × (Int)) => (bif decide (s9.2 < (list_0.length : Int)) then
  (gidx list_0 s9.2).bind fun x13 =>
  Option.bind (loopM (fun (s24 : (List Int) × (Int)) => (bif decide (s24.2 < (x13.length : Int)) then
  (gidx x13 s24.2).bind fun x28 =>
  (gidx s24.1 s24.2).bind fun x34 =>
  (gidx s24.1 s24.2).bind fun x38 =>
  some (.inl ((s24.1.set s24.2.toNat (w64 (x34 + x28))), w64 (s24.2 + 1)))
 else
  some (.inr s24.1))) (s9.1, 0)) fun o23 =>
  some (.inl (o23, w64 (s9.2 + 1)))
 else
  some (.inr s9.1))) ((List.replicate 4 0), 0)) fun o8 =>
  Option.bind (loopM (fun (s49 : (List Int) × (Int)) => (bif decide (s49.2 < 4) then
  (gidx o8 s49.2).bind fun x53 =>
  (M.impl_divideDown x53 (list_0.length : Int)).bind fun r55 =>
  (gidx s49.1 s49.2).bind fun x59 =>
  some (.inl ((s49.1.set s49.2.toNat r55), w64 (s49.2 + 1)))
 else
  some (.inr s49.1))) (o8, 0)) fun o48 =>
  some o48)

noncomputable def M.spec_floorDiv (a_0 : Int) (b_1 : Int) : Option Int :=
  (gquo a_0 b_1).bind fun q1 =>
  (grem a_0 b_1).bind fun q3 =>
  Option.bind ((bif decide (q3 < 0) then
  some (w64 (q1 - 1))
 else
  some q1)) fun o5 =>
  some o5

noncomputable def M.spec_mean (list_0 : List (List Int)) : Option ((List Int)) :=
  Option.bind (loopM (fun (s7 : (List Int) × (Int)) => (bif decide (s7.2 < 4) then
  Option.bind (loopM (fun (s16 : (Int) × (Int)) => (bif decide (s16.2 < (list_0.length : Int)) then
  (gidx list_0 s16.2).bind fun x22 =>
  (gidx x22 s7.2).bind fun x32 =>
  some (.inl (w64 (s16.1 + x32), w64 (s16.2 + 1)))
 else
  some (.inr s16.1))) (0, 0)) fun o15 =>
  (M.spec_floorDiv o15 (list_0.length : Int)).bind fun r40 =>
  (gapp s7.1 ([r40] : List Int)).bind fun xs51 =>
  some (.inl (xs51, w64 (s7.2 + 1)))
 else
  some (.inr s7.1))) (([] : List Int), 0)) fun o6 =>
  some o6

noncomputable def M.spec_MeanOf (list_0 : List (List Int)) : Option ((List Int)) :=
  (M.spec_inRange (list_0.length : Int) 1 16).bind fun r1 =>
  (bif !r1 then
  some []
 else
  Option.bind (loopM (fun (s7 : (Int)) => (bif decide (s7 < (list_0.length : Int)) then
  (gidx list_0 s7).bind fun x12 =>
  (M.spec_isVector x12).bind fun r22 =>
  (bif !r22 then
  some (.inr (.inr []))
 else
  some (.inl (w64 (s7 + 1))))
 else
  some (.inr (.inl ())))) 0) (selim (fun t27 => (M.spec_mean list_0).bind fun r30 =>
  some r30)
   (fun t37 => some t37)))

end Go.Vs

namespace Go.Vs

noncomputable def M.laws_FnMeanOfOrder (code_0 : List UInt8) : Option Bool :=
  (bif decide (1048576 < (code_0.length : Int)) then
  some true
 else
  (M.spec_DrawMeanOf code_0).bind fun r2 =>
  (M.impl_MeanOf r2).bind fun r13 =>
  (M.spec_MeanOf r2).bind fun r31 =>
  (M.laws_equalInts r13 r31).bind fun r55 =>
  (bif !r55 then
  some false
 else
  Option.bind (loopM (fun (s76 : (List (List Int)) × (Int)) => (bif decide (0 ≤ s76.2) then
  (gidx r2 s76.2).bind fun x88 =>
  (gapp s76.1 ([x88] : List (List Int))).bind fun xs106 =>
  some (.inl (xs106, w64 (s76.2 - 1)))
 else
  some (.inr s76.1))) (([] : List (List Int)), w64 ((r2.length : Int) - 1))) fun o75 =>
  (M.impl_MeanOf o75).bind fun r130 =>
  (M.laws_equalInts r130 r13).bind fun r149 =>
  some r149))

end Go.Vs

namespace Go.Vs

end Go.Vs

namespace Go.Vs

end Go.Vs

namespace Go.Vs

end Go.Vs

namespace Go.Vs

end Go.Vs

namespace Go.Vs

end Go.Vs

namespace Go.Vs

end Go.Vs

namespace Go.Vs

end Go.Vs

namespace Go.Vs

end Go.Vs

namespace Go.Vs

end Go.Vs

namespace Go.Vs

end Go.Vs

namespace Go.Vs

end Go.Vs

namespace Go.Vs

end Go.Vs

namespace Go.Vs

end Go.Vs

namespace Go.Vs

end Go.Vs

namespace Go.Vs

end Go.Vs

namespace Go.Vs

end Go.Vs

namespace Go.Vs

end Go.Vs

namespace Go.Vs

end Go.Vs

namespace Go.Vs

end Go.Vs

namespace Go.Vs

end Go.Vs

namespace Go.Vs

end Go.Vs

namespace Go.Vs

end Go.Vs

namespace Go.Vs

end Go.Vs

namespace Go.Vs

end Go.Vs

namespace Go.Vs

end Go.Vs

namespace Go.Vs

end Go.Vs

namespace Go.Vs

end Go.Vs

namespace Go.Vs

end Go.Vs

namespace Go.Vs

end Go.Vs

namespace Go.Vs

end Go.Vs

namespace Go.Vs

end Go.Vs
