/- What the functions compute. -/
import Derived.Test.YtpccmkphddipdaaValidLogEng1
import Derived.Test.YtpccmkphddipdaaValidLogEng2
set_option linter.unusedVariables false
set_option linter.unusedSimpArgs false
namespace Go.Vs

noncomputable def M.spec_reader_pick (r_0 : (List UInt8) × Int) (n_1 : Int) : Option (Int × ((List UInt8) × Int)) :=
  Option.bind ((bif decide (n_1 < 1) then
  some true
 else
  some ((r_0.1.length : Int) == 0))) fun o5 =>
  (bif o5 then
  some (0, (r_0.1, w64 (r_0.2 + 1)))
 else
  (bif decide ((w64 ((w64 (r_0.2 + 1)) - 1)) < (r_0.1.length : Int)) then
  (gidx r_0.1 (w64 ((w64 (r_0.2 + 1)) - 1))).bind fun x12 =>
  (grem (w64 (x12.toNat : Int)) n_1).bind fun q17 =>
  some (q17, (r_0.1, w64 (r_0.2 + 1)))
 else
  (grem (w64 ((w64 (r_0.2 + 1)) - 1)) (r_0.1.length : Int)).bind fun q19 =>
  (gidx r_0.1 q19).bind fun x21 =>
  (grem (w64 ((w64 ((w64 ((w64 (r_0.2 + 1)) - 1)) * 7)) + 3)) (r_0.1.length : Int)).bind fun q26 =>
  (gidx r_0.1 q26).bind fun x28 =>
  (gquo (w64 ((w64 (r_0.2 + 1)) - 1)) (r_0.1.length : Int)).bind fun q33 =>
  (grem (gxor (w64 ((w64 ((w64 ((w64 ((w64 (x21.toNat : Int)) * 131)) + (w64 ((w64 (x28.toNat : Int)) * 1117)))) + (w64 ((w64 ((w64 (r_0.2 + 1)) - 1)) * 29)))) + (w64 (q33 * 53)))) (w64 ((w64 ((w64 ((w64 ((w64 ((w64 (x21.toNat : Int)) * 131)) + (w64 ((w64 (x28.toNat : Int)) * 1117)))) + (w64 ((w64 ((w64 (r_0.2 + 1)) - 1)) * 29)))) + (w64 (q33 * 53)))).tdiv 64))) n_1).bind fun q36 =>
  some (q36, (r_0.1, w64 (r_0.2 + 1)))))

noncomputable def M.spec_reader_one (r_0 : (List UInt8) × Int) (list_1 : List Int) : Option (Int × ((List UInt8) × Int)) :=
  (M.spec_reader_pick (r_0.1, r_0.2) (list_1.length : Int)).bind fun r1 =>
  (gidx list_1 r1.1).bind fun x9 =>
  some (x9, (r1.2.1, r1.2.2))

noncomputable def M.spec_someCoord (r_0 : (List UInt8) × Int) : Option (Int × ((List UInt8) × Int)) :=
  (M.spec_reader_pick (r_0.1, r_0.2) 201).bind fun r1 =>
  (M.spec_reader_pick (r1.2.1, r1.2.2) 21).bind fun r9 =>
  (M.spec_reader_one (r9.2.1, r9.2.2) ([0, 1, -1, 5, -7, 10, 3, 100, -100, w64 (r1.1 - 100), w64 (r9.1 - 10)] : List Int)).bind fun r27 =>
  some (r27.1, (r27.2.1, r27.2.2))

noncomputable def M.spec_someVector (r_0 : (List UInt8) × Int) : Option ((List Int) × ((List UInt8) × Int)) :=
  Option.bind (loopM (fun (s7 : ((List UInt8) × (Int)) × (List Int) × (Int)) => (bif decide (s7.2.2 < 4) then
  (M.spec_someCoord (s7.1.1, s7.1.2)).bind fun r18 =>
  (gapp s7.2.1 ([r18.1] : List Int)).bind fun xs33 =>
  some (.inl ((r18.2.1, r18.2.2), xs33, w64 (s7.2.2 + 1)))
 else
  some (.inr ((s7.1.1, s7.1.2), s7.2.1)))) ((r_0.1, r_0.2), ([] : List Int), 0)) fun o6 =>
  some (o6.2, (o6.1.1, o6.1.2))

noncomputable def M.spec_copyInts (list_0 : List Int) : Option ((List Int)) :=
  (gapp ([] : List Int) list_0).bind fun xs6 =>
  some xs6

noncomputable def M.spec_reader_spoil (r_0 : (List UInt8) × Int) (list_1 : List Int) (n_2 : Int) : Option ((List Int) × ((List UInt8) × Int)) :=
  (M.spec_copyInts list_1).bind fun r1 =>
  (M.spec_reader_pick (r_0.1, r_0.2) 20).bind fun r8 =>
  Option.bind ((bif r8.1 == 0 then
  (gapp r1 ([n_2] : List Int)).bind fun xs25 =>
  some ((r8.2.1, r8.2.2), xs25)
 else
  (bif r8.1 == 1 then
  (bif decide (0 < (r1.length : Int)) then
  (gslice r1 1 (r1.length : Int)).bind fun xs36 =>
  some ((r8.2.1, r8.2.2), xs36)
 else
  some ((r8.2.1, r8.2.2), r1))
 else
  (bif r8.1 == 2 then
  (bif decide (0 < (r1.length : Int)) then
  (M.spec_reader_pick (r8.2.1, r8.2.2) (r1.length : Int)).bind fun r44 =>
  (M.spec_reader_one (r44.2.1, r44.2.2) ([-1, n_2, 0, 1] : List Int)).bind fun r64 =>
  (gidx r1 r44.1).bind fun x73 =>
  some ((r64.2.1, r64.2.2), (r1.set r44.1.toNat r64.1))
 else
  some ((r8.2.1, r8.2.2), r1))
 else
  some ((r8.2.1, r8.2.2), r1))))) fun o17 =>
  some (o17.2, (o17.1.1, o17.1.2))

noncomputable def M.spec_anyVector (r_0 : (List UInt8) × Int) : Option ((List Int) × ((List UInt8) × Int)) :=
  (M.spec_reader_pick (r_0.1, r_0.2) 10).bind fun r1 =>
  (bif r1.1 == 0 then
  (M.spec_someVector (r1.2.1, r1.2.2)).bind fun r10 =>
  (M.spec_reader_spoil (r10.2.1, r10.2.2) r10.1 101).bind fun r26 =>
  some (r26.1, (r26.2.1, r26.2.2))
 else
  (M.spec_someVector (r1.2.1, r1.2.2)).bind fun r37 =>
  some (r37.1, (r37.2.1, r37.2.2)))

noncomputable def M.spec_newReader (code_0 : List UInt8) : Option (((List UInt8) × Int)) :=
  Option.bind ((bif decide (2000 < (code_0.length : Int)) then
  (gslice code_0 0 2000).bind fun xs3 =>
  some xs3
 else
  some code_0)) fun o1 =>
  some (o1, 0)

noncomputable def M.impl_validCoords (coords_0 : List Int) : Option Bool :=
  Option.bind (loopM (fun (s2 : (Int)) => (bif decide (s2 < (coords_0.length : Int)) then
  (gidx coords_0 s2).bind fun x5 =>
  Option.bind ((bif decide (x5 < (-100)) then
  some true
 else
  some (decide (100 < x5)))) fun o11 =>
  (bif o11 then
  some (.inr (.inr false))
 else
  some (.inl (w64 (s2 + 1))))
 else
  some (.inr (.inl ())))) 0) (selim (fun t15 => some true)
   (fun t17 => some t17))

noncomputable def M.impl_ValidVector (v_0 : List Int) : Option Bool :=
  (bif (v_0.length : Int) == 4 then
  (M.impl_validCoords v_0).bind fun r2 =>
  some r2
 else
  some false)

noncomputable def M.spec_inRange (n_0 : Int) (low_1 : Int) (high_2 : Int) : Option Bool :=
  (bif decide (low_1 ≤ n_0) then
  some (decide (n_0 ≤ high_2))
 else
  some false)

noncomputable def M.spec_allIn (list_0 : List Int) (low_1 : Int) (high_2 : Int) : Option Bool :=
  Option.bind (loopM (fun (s2 : (Int)) => (bif decide (s2 < (list_0.length : Int)) then
  (gidx list_0 s2).bind fun x7 =>
  (M.spec_inRange x7 low_1 high_2).bind fun r12 =>
  (bif !r12 then
  some (.inr (.inr false))
 else
  some (.inl (w64 (s2 + 1))))
 else
  some (.inr (.inl ())))) 0) (selim (fun t17 => some true)
   (fun t19 => some t19))

noncomputable def M.spec_isVector (v_0 : List Int) : Option Bool :=
  (bif (v_0.length : Int) == 4 then
  (M.spec_allIn v_0 (-100) 100).bind fun r2 =>
  some r2
 else
  some false)

noncomputable def M.spec_someItem (r_0 : (List UInt8) × Int) : Option ((Int × (List Int) × Int) × ((List UInt8) × Int)) :=
  (M.spec_reader_pick (r_0.1, r_0.2) 30).bind fun r7 =>
  (M.spec_someVector (r7.2.1, r7.2.2)).bind fun r16 =>
  (M.spec_reader_pick (r16.2.1, r16.2.2) 16).bind fun r29 =>
  some ((w64 (1 + r7.1), r16.1, r29.1), (r29.2.1, r29.2.2))

noncomputable def M.spec_anyItem (r_0 : (List UInt8) × Int) : Option ((Int × (List Int) × Int) × ((List UInt8) × Int)) :=
  (M.spec_someItem (r_0.1, r_0.2)).bind fun r7 =>
  (M.spec_reader_pick (r7.2.1, r7.2.2) 16).bind fun r30 =>
  Option.bind ((bif r30.1 == 0 then
  (M.spec_reader_one (r30.2.1, r30.2.2) ([0, 99, 100] : List Int)).bind fun r54 =>
  some ((r54.2.1, r54.2.2), (r54.1, r7.1.2.1, r7.1.2.2))
 else
  (bif r30.1 == 1 then
  (M.spec_anyVector (r30.2.1, r30.2.2)).bind fun r69 =>
  some ((r69.2.1, r69.2.2), (r7.1.1, r69.1, r7.1.2.2))
 else
  (bif r30.1 == 2 then
  (M.spec_reader_one (r30.2.1, r30.2.2) ([-1, 16] : List Int)).bind fun r106 =>
  some ((r106.2.1, r106.2.2), (r7.1.1, r7.1.2.1, r106.1))
 else
  some ((r30.2.1, r30.2.2), (r7.1.1, r7.1.2.1, r7.1.2.2)))))) fun o40 =>
  some ((o40.2.1, o40.2.2.1, o40.2.2.2), (o40.1.1, o40.1.2))

noncomputable def M.spec_validItem (x_0 : Int × (List Int) × Int) : Option Bool :=
  (M.spec_inRange x_0.1 1 99).bind fun r7 =>
  (bif r7 then
  (M.spec_isVector x_0.2.1).bind fun r13 =>
  (bif r13 then
  (M.spec_inRange x_0.2.2 0 15).bind fun r19 =>
  some r19
 else
  some false)
 else
  some false)

noncomputable def M.impl_validKey (key_0 : Int) : Option Bool :=
  (bif decide (1 ≤ key_0) then
  some (decide (key_0 ≤ 99))
 else
  some false)

noncomputable def M.impl_validTags (tags_0 : Int) : Option Bool :=
  (bif decide (0 ≤ tags_0) then
  some (decide (tags_0 ≤ 15))
 else
  some false)

noncomputable def M.impl_validItem (x_0 : Int × (List Int) × Int) : Option Bool :=
  (M.impl_validKey x_0.1).bind fun r4 =>
  (bif r4 then
  (M.impl_ValidVector x_0.2.1).bind fun r10 =>
  (bif r10 then
  (M.impl_validTags x_0.2.2).bind fun r16 =>
  some r16
 else
  some false)
 else
  some false)

end Go.Vs

namespace Go.Vs

end Go.Vs

namespace Go.Vs

end Go.Vs

namespace Go.Vs

end Go.Vs

namespace Go.Vs

end Go.Vs

namespace Go.Vs

end Go.Vs

namespace Go.Vs

end Go.Vs

namespace Go.Vs

end Go.Vs

namespace Go.Vs

end Go.Vs

namespace Go.Vs

end Go.Vs

namespace Go.Vs

end Go.Vs

namespace Go.Vs

end Go.Vs

namespace Go.Vs

end Go.Vs

namespace Go.Vs

end Go.Vs

namespace Go.Vs

end Go.Vs

namespace Go.Vs

end Go.Vs

namespace Go.Vs

end Go.Vs

namespace Go.Vs

end Go.Vs

namespace Go.Vs

end Go.Vs

namespace Go.Vs

end Go.Vs

namespace Go.Vs

end Go.Vs

namespace Go.Vs

end Go.Vs

namespace Go.Vs

end Go.Vs

namespace Go.Vs

end Go.Vs

namespace Go.Vs

noncomputable def M.spec_validEntry (e_0 : Int × (Int × (List Int) × Int)) : Option Bool :=
  (bif e_0.1 == 1 then
  (M.spec_validItem (e_0.2.1, e_0.2.2.1, e_0.2.2.2)).bind fun r6 =>
  some r6
 else
  (bif e_0.1 == 2 then
  (M.spec_inRange e_0.2.1 1 99).bind fun r13 =>
  (bif r13 then
  (bif (e_0.2.2.1.length : Int) == 0 then
  some (e_0.2.2.2 == 0)
 else
  some false)
 else
  some false)
 else
  some false))

noncomputable def M.spec_validLog (list_0 : List (Int × (Int × (List Int) × Int))) : Option Bool :=
  Option.bind (loopM (fun (s2 : (Int)) => (bif decide (s2 < (list_0.length : Int)) then
  (gidx list_0 s2).bind fun x5 =>
  (M.spec_validEntry (x5.1, (x5.2.1, x5.2.2.1, x5.2.2.2))).bind fun r15 =>
  (bif !r15 then
  some (.inr (.inr false))
 else
  some (.inl (w64 (s2 + 1))))
 else
  some (.inr (.inl ())))) 0) (selim (fun t20 => some (decide ((list_0.length : Int) ≤ 32)))
   (fun t22 => some t22))

noncomputable def M.spec_ValidLog (list_0 : List (Int × (Int × (List Int) × Int))) : Option Bool :=
  (M.spec_validLog list_0).bind fun r1 =>
  some r1

noncomputable def M.spec_someEntry (r_0 : (List UInt8) × Int) : Option ((Int × (Int × (List Int) × Int)) × ((List UInt8) × Int)) :=
  (M.spec_reader_pick (r_0.1, r_0.2) 3).bind fun r3 =>
  (bif r3.1 == 0 then
  (M.spec_reader_pick (r3.2.1, r3.2.2) 12).bind fun r10 =>
  some ((2, (w64 (1 + r10.1), ([] : List Int), 0)), (r10.2.1, r10.2.2))
 else
  (M.spec_someItem (r3.2.1, r3.2.2)).bind fun r19 =>
  (M.spec_reader_pick (r19.2.1, r19.2.2) 12).bind fun r30 =>
  some ((1, (w64 (1 + r30.1), r19.1.2.1, r19.1.2.2)), (r30.2.1, r30.2.2)))

noncomputable def M.spec_anyEntry (r_0 : (List UInt8) × Int) : Option ((Int × (Int × (List Int) × Int)) × ((List UInt8) × Int)) :=
  (M.spec_someEntry (r_0.1, r_0.2)).bind fun r3 =>
  (M.spec_reader_pick (r3.2.1, r3.2.2) 16).bind fun r14 =>
  Option.bind ((bif r14.1 == 0 then
  (M.spec_reader_one (r14.2.1, r14.2.2) ([0, 3, 1, 2] : List Int)).bind fun r26 =>
  some ((r26.2.1, r26.2.2), (r26.1, (r3.1.2.1, r3.1.2.2.1, r3.1.2.2.2)))
 else
  (bif r14.1 == 1 then
  (M.spec_anyItem (r14.2.1, r14.2.2)).bind fun r34 =>
  some ((r34.2.1, r34.2.2), (r3.1.1, (r34.1.1, r34.1.2.1, r34.1.2.2)))
 else
  some ((r14.2.1, r14.2.2), (r3.1.1, (r3.1.2.1, r3.1.2.2.1, r3.1.2.2.2)))))) fun o20 =>
  some ((o20.2.1, (o20.2.2.1, o20.2.2.2.1, o20.2.2.2.2)), (o20.1.1, o20.1.2))

noncomputable def M.spec_anyLog (r_0 : (List UInt8) × Int) : Option ((List (Int × (Int × (List Int) × Int))) × ((List UInt8) × Int)) :=
  (M.spec_reader_one (r_0.1, r_0.2) ([4, 6, 8, 3, 1, 0, 32, 33] : List Int)).bind fun r7 =>
  Option.bind (loopM (fun (s14 : ((List UInt8) × (Int)) × (List (Int × (Int × (List Int) × Int))) × (Int)) => (bif decide (0 < s14.2.2) then
  (M.spec_someEntry (s14.1.1, s14.1.2)).bind fun r21 =>
  (gapp s14.2.1 ([(r21.1.1, (r21.1.2.1, r21.1.2.2.1, r21.1.2.2.2))] : List (Int × (Int × (List Int) × Int)))).bind fun xs33 =>
  some (.inl ((r21.2.1, r21.2.2), xs33, w64 (s14.2.2 - 1)))
 else
  some (.inr ((s14.1.1, s14.1.2), s14.2.1)))) ((r7.2.1, r7.2.2), ([] : List (Int × (Int × (List Int) × Int))), r7.1)) fun o13 =>
  (M.spec_reader_pick (o13.1.1, o13.1.2) 12).bind fun r43 =>
  Option.bind ((bif r43.1 == 0 then
  (M.spec_anyEntry (r43.2.1, r43.2.2)).bind fun r51 =>
  (gapp o13.2 ([(r51.1.1, (r51.1.2.1, r51.1.2.2.1, r51.1.2.2.2))] : List (Int × (Int × (List Int) × Int)))).bind fun xs63 =>
  some ((r51.2.1, r51.2.2), xs63)
 else
  some ((r43.2.1, r43.2.2), o13.2))) fun o49 =>
  some (o49.2, (o49.1.1, o49.1.2))

noncomputable def M.spec_DrawValidLog (code_0 : List UInt8) : Option ((List (Int × (Int × (List Int) × Int)))) :=
  (M.spec_newReader code_0).bind fun r1 =>
  (M.spec_anyLog (r1.1, r1.2)).bind fun r8 =>
  some r8.1

end Go.Vs

namespace Go.Vs

end Go.Vs

namespace Go.Vs

end Go.Vs

namespace Go.Vs

end Go.Vs

namespace Go.Vs

end Go.Vs

namespace Go.Vs

end Go.Vs

namespace Go.Vs

end Go.Vs

namespace Go.Vs

end Go.Vs

namespace Go.Vs

end Go.Vs

namespace Go.Vs

noncomputable def M.impl_onlyKey (x_0 : Int × (List Int) × Int) : Option Bool :=
  (M.impl_validKey x_0.1).bind fun r4 =>
  (bif r4 then
  (bif (x_0.2.1.length : Int) == 0 then
  some (x_0.2.2 == 0)
 else
  some false)
 else
  some false)

noncomputable def M.impl_changeOf (e_0 : Int × (Int × (List Int) × Int)) : Option ((If2 Int ((Int × (List Int) × Int))) × Bool) :=
  Option.bind ((bif e_0.1 == 1 then
  (M.impl_validItem (e_0.2.1, e_0.2.2.1, e_0.2.2.2)).bind fun r7 =>
  some r7
 else
  some false)) fun o3 =>
  (bif o3 then
  some ((If2.mk 2 0 (e_0.2.1, e_0.2.2.1, e_0.2.2.2)), true)
 else
  Option.bind ((bif e_0.1 == 2 then
  (M.impl_onlyKey (e_0.2.1, e_0.2.2.1, e_0.2.2.2)).bind fun r18 =>
  some r18
 else
  some false)) fun o14 =>
  (bif o14 then
  some ((If2.mk 1 e_0.2.1 (0, [], 0)), true)
 else
  some ((If2.mk 0 0 (0, [], 0)), false)))

noncomputable def M.impl_changesOf (log_0 : List (Int × (Int × (List Int) × Int))) : Option ((List (If2 Int ((Int × (List Int) × Int)))) × Bool) :=
  (bif decide (32 < (log_0.length : Int)) then
  some ([], false)
 else
  (gmake (log_0.length : Int) ((If2.mk 0 0 (0, [], 0)) : If2 Int ((Int × (List Int) × Int)))).bind fun xs2 =>
  Option.bind (loopM (fun (s9 : (List (If2 Int ((Int × (List Int) × Int)))) × (Int)) => (bif decide (s9.2 < (log_0.length : Int)) then
  (gidx log_0 s9.2).bind fun x14 =>
  (M.impl_changeOf (x14.1, (x14.2.1, x14.2.2.1, x14.2.2.2))).bind fun r28 =>
  (bif !r28.2 then
  some (.inr (.inr ([], false)))
 else
  (gidx s9.1 s9.2).bind fun x35 =>
  some (.inl ((s9.1.set s9.2.toNat (If2.mk r28.1.1 r28.1.2.1 (r28.1.2.2.1, r28.1.2.2.2.1, r28.1.2.2.2.2))), w64 (s9.2 + 1))))
 else
  some (.inr (.inl s9.1)))) (xs2, 0)) (selim (fun t44 => some (t44, true))
   (fun t48 => some (t48.1, t48.2))))

noncomputable def M.impl_ValidLog (list_0 : List (Int × (Int × (List Int) × Int))) : Option Bool :=
  (M.impl_changesOf list_0).bind fun r1 =>
  some r1.2

noncomputable def M.laws_FnValidLog (code_0 : List UInt8) : Option Bool :=
  (bif decide (1048576 < (code_0.length : Int)) then
  some true
 else
  (M.spec_DrawValidLog code_0).bind fun r2 =>
  (M.impl_ValidLog r2).bind fun r8 =>
  Option.bind ((M.spec_ValidLog r2).bind fun r13 =>
  (bif r8 != r13 then
  some true
 else
  (bif !r8 then
  some true
 else
  some ((r2.length : Int) == 0)))) fun o12 =>
  (bif o12 then
  (M.spec_ValidLog r2).bind fun r23 =>
  some (r8 == r23)
 else
  (gslice r2 0 (w64 ((r2.length : Int) - 1))).bind fun xs27 =>
  (M.impl_ValidLog xs27).bind fun r35 =>
  (bif r35 then
  (gslice r2 1 (r2.length : Int)).bind fun xs40 =>
  (M.impl_ValidLog xs40).bind fun r46 =>
  some r46
 else
  some false)))

end Go.Vs
