/- What the functions compute. -/
import Derived.Test.YtnkflplbeagljaaFuseRanksEng1
import Derived.Test.YtnkflplbeagljaaFuseRanksEng2
set_option linter.unusedVariables false
set_option linter.unusedSimpArgs false
namespace Go.Vs

noncomputable def M.spec_reader_pick (r_0 : (List UInt8) × Int) (n_1 : Int) : Option (Int × ((List UInt8) × Int)) :=
  Option.bind ((bif decide (n_1 < 1) then
  some true
 else
  some ((r_0.1.length : Int) == 0))) fun o5 =>
  (bif o5 then
  some (0, (r_0.1, w64 (r_0.2 + 1)))
 else
  (bif decide ((w64 ((w64 (r_0.2 + 1)) - 1)) < (r_0.1.length : Int)) then
  (gidx r_0.1 (w64 ((w64 (r_0.2 + 1)) - 1))).bind fun x12 =>
  (grem (w64 (x12.toNat : Int)) n_1).bind fun q17 =>
  some (q17, (r_0.1, w64 (r_0.2 + 1)))
 else
  (grem (w64 ((w64 (r_0.2 + 1)) - 1)) (r_0.1.length : Int)).bind fun q19 =>
  (gidx r_0.1 q19).bind fun x21 =>
  (grem (w64 ((w64 ((w64 ((w64 (r_0.2 + 1)) - 1)) * 7)) + 3)) (r_0.1.length : Int)).bind fun q26 =>
  (gidx r_0.1 q26).bind fun x28 =>
  (gquo (w64 ((w64 (r_0.2 + 1)) - 1)) (r_0.1.length : Int)).bind fun q33 =>
  (grem (gxor (w64 ((w64 ((w64 ((w64 ((w64 (x21.toNat : Int)) * 131)) + (w64 ((w64 (x28.toNat : Int)) * 1117)))) + (w64 ((w64 ((w64 (r_0.2 + 1)) - 1)) * 29)))) + (w64 (q33 * 53)))) (w64 ((w64 ((w64 ((w64 ((w64 ((w64 (x21.toNat : Int)) * 131)) + (w64 ((w64 (x28.toNat : Int)) * 1117)))) + (w64 ((w64 ((w64 (r_0.2 + 1)) - 1)) * 29)))) + (w64 (q33 * 53)))).tdiv 64))) n_1).bind fun q36 =>
  some (q36, (r_0.1, w64 (r_0.2 + 1)))))

noncomputable def M.spec_reader_one (r_0 : (List UInt8) × Int) (list_1 : List Int) : Option (Int × ((List UInt8) × Int)) :=
  (M.spec_reader_pick (r_0.1, r_0.2) (list_1.length : Int)).bind fun r1 =>
  (gidx list_1 r1.1).bind fun x9 =>
  some (x9, (r1.2.1, r1.2.2))

noncomputable def M.spec_someCoord (r_0 : (List UInt8) × Int) : Option (Int × ((List UInt8) × Int)) :=
  (M.spec_reader_pick (r_0.1, r_0.2) 201).bind fun r1 =>
  (M.spec_reader_pick (r1.2.1, r1.2.2) 21).bind fun r9 =>
  (M.spec_reader_one (r9.2.1, r9.2.2) ([0, 1, -1, 5, -7, 10, 3, 100, -100, w64 (r1.1 - 100), w64 (r9.1 - 10)] : List Int)).bind fun r27 =>
  some (r27.1, (r27.2.1, r27.2.2))

noncomputable def M.spec_someVector (r_0 : (List UInt8) × Int) : Option ((List Int) × ((List UInt8) × Int)) :=
  Option.bind (loopM (fun (s7 : ((List UInt8) × (Int)) × (List Int) × (Int)) => (bif decide (s7.2.2 < 4) then
  (M.spec_someCoord (s7.1.1, s7.1.2)).bind fun r18 =>
  (gapp s7.2.1 ([r18.1] : List Int)).bind fun xs33 =>
  some (.inl ((r18.2.1, r18.2.2), xs33, w64 (s7.2.2 + 1)))
 else
  some (.inr ((s7.1.1, s7.1.2), s7.2.1)))) ((r_0.1, r_0.2), ([] : List Int), 0)) fun o6 =>
  some (o6.2, (o6.1.1, o6.1.2))

noncomputable def M.spec_copyInts (list_0 : List Int) : Option ((List Int)) :=
  (gapp ([] : List Int) list_0).bind fun xs6 =>
  some xs6

noncomputable def M.spec_newReader (code_0 : List UInt8) : Option (((List UInt8) × Int)) :=
  Option.bind ((bif decide (2000 < (code_0.length : Int)) then
  (gslice code_0 0 2000).bind fun xs3 =>
  some xs3
 else
  some code_0)) fun o1 =>
  some (o1, 0)

noncomputable def M.spec_inRange (n_0 : Int) (low_1 : Int) (high_2 : Int) : Option Bool :=
  (bif decide (low_1 ≤ n_0) then
  some (decide (n_0 ≤ high_2))
 else
  some false)

noncomputable def M.spec_allIn (list_0 : List Int) (low_1 : Int) (high_2 : Int) : Option Bool :=
  Option.bind (loopM (fun (s2 : (Int)) => (bif decide (s2 < (list_0.length : Int)) then
  (gidx list_0 s2).bind fun x7 =>
  (M.spec_inRange x7 low_1 high_2).bind fun r12 =>
  (bif !r12 then
  some (.inr (.inr false))
 else
  some (.inl (w64 (s2 + 1))))
 else
  some (.inr (.inl ())))) 0) (selim (fun t17 => some true)
   (fun t19 => some t19))

noncomputable def M.spec_isVector (v_0 : List Int) : Option Bool :=
  (bif (v_0.length : Int) == 4 then
  (M.spec_allIn v_0 (-100) 100).bind fun r2 =>
  some r2
 else
  some false)

noncomputable def M.spec_size (n_0 : Int) : Option Int :=
  some (max n_0 (w64 (0 - n_0)))

noncomputable def M.spec_toInt (b_0 : Bool) : Option Int :=
  (bif b_0 then
  some 1
 else
  some 0)

noncomputable def M.spec_dist (kind_0 : Int) (a_1 : List Int) (b_2 : List Int) : Option Int :=
  Option.bind (loopM (fun (s2 : (Int) × (Int)) => (bif decide (s2.2 < (a_1.length : Int)) then
  Option.bind ((gidx a_1 s2.2).bind fun x9 =>
  (gidx b_2 s2.2).bind fun x14 =>
  (M.spec_size (w64 (x9 - x14))).bind fun r20 =>
  (bif kind_0 == 1 then
  some (w64 (s2.1 + r20))
 else
  (bif kind_0 == 2 then
  some (max s2.1 r20)
 else
  (bif kind_0 == 3 then
  some (w64 (s2.1 + (w64 (r20 * r20))))
 else
  (M.spec_toInt (decide (0 < r20))).bind fun r27 =>
  some (w64 (s2.1 + r27)))))) fun o8 =>
  some (.inl (o8, w64 (s2.2 + 1)))
 else
  some (.inr s2.1))) (0, 0)) fun o1 =>
  some o1

noncomputable def M.laws_equalInts (a_0 : List Int) (b_1 : List Int) : Option Bool :=
  (bif (a_0.length : Int) != (b_1.length : Int) then
  some false
 else
  Option.bind (loopM (fun (s3 : (Int)) => (bif decide (s3 < (a_0.length : Int)) then
  (gidx a_0 s3).bind fun x9 =>
  (gidx b_1 s3).bind fun x14 =>
  (bif x9 != x14 then
  some (.inr (.inr false))
 else
  some (.inl (w64 (s3 + 1))))
 else
  some (.inr (.inl ())))) 0) (selim (fun t21 => some true)
   (fun t23 => some t23)))

noncomputable def M.spec_someItem (r_0 : (List UInt8) × Int) : Option ((Int × (List Int) × Int) × ((List UInt8) × Int)) :=
  (M.spec_reader_pick (r_0.1, r_0.2) 30).bind fun r7 =>
  (M.spec_someVector (r7.2.1, r7.2.2)).bind fun r16 =>
  (M.spec_reader_pick (r16.2.1, r16.2.2) 16).bind fun r29 =>
  some ((w64 (1 + r7.1), r16.1, r29.1), (r29.2.1, r29.2.2))

noncomputable def M.spec_validItem (x_0 : Int × (List Int) × Int) : Option Bool :=
  (M.spec_inRange x_0.1 1 99).bind fun r7 =>
  (bif r7 then
  (M.spec_isVector x_0.2.1).bind fun r13 =>
  (bif r13 then
  (M.spec_inRange x_0.2.2 0 15).bind fun r19 =>
  some r19
 else
  some false)
 else
  some false)

noncomputable def M.spec_validStore (list_0 : List (Int × (List Int) × Int)) : Option Bool :=
  Option.bind (loopM (fun (s2 : (Int)) => (bif decide (s2 < (list_0.length : Int)) then
  Option.bind ((gidx list_0 s2).bind fun x8 =>
  (M.spec_validItem (x8.1, x8.2.1, x8.2.2)).bind fun r19 =>
  (bif !r19 then
  some true
 else
  (bif decide (0 < s2) then
  (gidx list_0 s2).bind fun x24 =>
  (gidx list_0 (w64 (s2 - 1))).bind fun x29 =>
  some (decide (x24.1 ≤ x29.1))
 else
  some false))) fun o7 =>
  (bif o7 then
  some (.inr (.inr false))
 else
  some (.inl (w64 (s2 + 1))))
 else
  some (.inr (.inl ())))) 0) (selim (fun t39 => some (decide ((list_0.length : Int) ≤ 16)))
   (fun t42 => some t42))

noncomputable def M.spec_copyItem (x_0 : Int × (List Int) × Int) : Option ((Int × (List Int) × Int)) :=
  (M.spec_copyInts x_0.2.1).bind fun r14 =>
  some (x_0.1, r14, x_0.2.2)

noncomputable def M.spec_put (list_0 : List (Int × (List Int) × Int)) (x_1 : Int × (List Int) × Int) : Option ((List (Int × (List Int) × Int))) :=
  Option.bind (loopM (fun (s14 : (List (Int × (List Int) × Int)) × (Int)) => (bif decide (s14.2 < (list_0.length : Int)) then
  Option.bind ((gidx list_0 s14.2).bind fun x26 =>
  (bif decide (x26.1 < x_1.1) then
  (gidx list_0 s14.2).bind fun x33 =>
  (M.spec_copyItem (x33.1, x33.2.1, x33.2.2)).bind fun r44 =>
  (gapp s14.1 ([(r44.1, r44.2.1, r44.2.2)] : List (Int × (List Int) × Int))).bind fun xs60 =>
  some xs60
 else
  some s14.1)) fun o25 =>
  some (.inl (o25, w64 (s14.2 + 1)))
 else
  some (.inr s14.1))) (([] : List (Int × (List Int) × Int)), 0)) fun o13 =>
  (M.spec_copyItem (x_1.1, x_1.2.1, x_1.2.2)).bind fun r87 =>
  (gapp o13 ([(r87.1, r87.2.1, r87.2.2)] : List (Int × (List Int) × Int))).bind fun xs103 =>
  Option.bind (loopM (fun (s115 : (List (Int × (List Int) × Int)) × (Int)) => (bif decide (s115.2 < (list_0.length : Int)) then
  Option.bind ((gidx list_0 s115.2).bind fun x127 =>
  (bif decide (x_1.1 < x127.1) then
  (gidx list_0 s115.2).bind fun x134 =>
  (M.spec_copyItem (x134.1, x134.2.1, x134.2.2)).bind fun r145 =>
  (gapp s115.1 ([(r145.1, r145.2.1, r145.2.2)] : List (Int × (List Int) × Int))).bind fun xs161 =>
  some xs161
 else
  some s115.1)) fun o126 =>
  some (.inl (o126, w64 (s115.2 + 1)))
 else
  some (.inr s115.1))) (xs103, 0)) fun o114 =>
  some o114

noncomputable def M.spec_PutItem (list_0 : List (Int × (List Int) × Int)) (x_1 : Int × (List Int) × Int) : Option ((List (Int × (List Int) × Int)) × Bool) :=
  Option.bind ((M.spec_validStore list_0).bind fun r8 =>
  (bif !r8 then
  some true
 else
  (M.spec_validItem (x_1.1, x_1.2.1, x_1.2.2)).bind fun r14 =>
  some (!r14))) fun o7 =>
  (bif o7 then
  some ([], false)
 else
  (M.spec_put list_0 (x_1.1, x_1.2.1, x_1.2.2)).bind fun r24 =>
  (M.spec_validStore r24).bind fun r35 =>
  (bif !r35 then
  some ([], false)
 else
  some (r24, true)))

noncomputable def M.spec_someStore (r_0 : (List UInt8) × Int) : Option ((List (Int × (List Int) × Int)) × ((List UInt8) × Int)) :=
  (M.spec_reader_one (r_0.1, r_0.2) ([4, 6, 8, 3, 1, 0, 20, 12] : List Int)).bind fun r17 =>
  Option.bind (loopM (fun (s27 : ((List UInt8) × (Int)) × (List (Int × (List Int) × Int)) × (Int)) => (bif decide (0 < s27.2.2) then
  Option.bind ((M.spec_someItem (s27.1.1, s27.1.2)).bind fun r39 =>
  (M.spec_PutItem s27.2.1 (r39.1.1, r39.1.2.1, r39.1.2.2)).bind fun r55 =>
  (bif r55.2 then
  some ((r39.2.1, r39.2.2), r55.1)
 else
  some ((r39.2.1, r39.2.2), s27.2.1))) fun o38 =>
  some (.inl ((o38.1.1, o38.1.2), o38.2, w64 (s27.2.2 - 1)))
 else
  some (.inr ((s27.1.1, s27.1.2), s27.2.1)))) ((r17.2.1, r17.2.2), ([] : List (Int × (List Int) × Int)), r17.1)) fun o26 =>
  some (o26.2, (o26.1.1, o26.1.2))

noncomputable def M.impl_validKey (key_0 : Int) : Option Bool :=
  (bif decide (1 ≤ key_0) then
  some (decide (key_0 ≤ 99))
 else
  some false)

noncomputable def M.cmp_isNaN_int (x_0 : Int) : Option Bool :=
  some (x_0 != x_0)

noncomputable def M.cmp_Compare_int (x_0 : Int) (y_1 : Int) : Option Int :=
  (M.cmp_isNaN_int x_0).bind fun r1 =>
  (M.cmp_isNaN_int y_1).bind fun r5 =>
  (bif r1 then
  (bif r5 then
  some 0
 else
  some (-1))
 else
  (bif r5 then
  some 1
 else
  (bif decide (x_0 < y_1) then
  some (-1)
 else
  (bif decide (y_1 < x_0) then
  some 1
 else
  some 0))))

end Go.Vs

namespace Go.Vs

end Go.Vs

namespace Go.Vs

end Go.Vs

namespace Go.Vs

end Go.Vs

namespace Go.Vs

end Go.Vs

namespace Go.Vs

noncomputable def M.cmp_Or_int (vals_0 : List Int) : Option Int :=
  Option.bind (loopM (fun (s2 : (Int)) => (bif decide (s2 < (vals_0.length : Int)) then
  (gidx vals_0 s2).bind fun x5 =>
  (bif x5 != 0 then
  some (.inr (.inr x5))
 else
  some (.inl (w64 (s2 + 1))))
 else
  some (.inr (.inl ())))) 0) (selim (fun t12 => some 0)
   (fun t14 => some t14))

noncomputable def M.impl_compareHits (a_0 : Int × Int) (b_1 : Int × Int) : Option Int :=
  (M.cmp_Compare_int a_0.2 b_1.2).bind fun r7 =>
  (M.cmp_Compare_int a_0.1 b_1.1).bind fun r13 =>
  (M.cmp_Or_int ([r7, r13] : List Int)).bind fun r21 =>
  some r21

noncomputable def M.spec_nearer (a_0 : Int × Int) (b_1 : Int × Int) : Option Bool :=
  (bif decide (a_0.2 < b_1.2) then
  some true
 else
  (bif a_0.2 == b_1.2 then
  some (decide (a_0.1 < b_1.1))
 else
  some false))

noncomputable def M.spec_addHit (list_0 : List (Int × Int)) (h_1 : Int × Int) (k_2 : Int) : Option ((List (Int × Int))) :=
  (gapp ([] : List (Int × Int)) list_0).bind fun xs4 =>
  (gapp xs4 ([(h_1.1, h_1.2)] : List (Int × Int))).bind fun xs11 =>
  Option.bind (loopM (fun (s17 : (List (Int × Int)) × (Int)) => Option.bind ((bif decide (0 < s17.2) then
  (gidx s17.1 s17.2).bind fun x22 =>
  (gidx s17.1 (w64 (s17.2 - 1))).bind fun x29 =>
  (M.spec_nearer (x22.1, x22.2) (x29.1, x29.2)).bind fun r37 =>
  some r37
 else
  some false)) fun o20 =>
  (bif o20 then
  (gidx s17.1 s17.2).bind fun x44 =>
  (gidx s17.1 (w64 (s17.2 - 1))).bind fun x54 =>
  (gidx s17.1 s17.2).bind fun x61 =>
  (gidx (s17.1.set s17.2.toNat (x54.1, x54.2)) (w64 (s17.2 - 1))).bind fun x68 =>
  some (.inl (((s17.1.set s17.2.toNat (x54.1, x54.2)).set (w64 (s17.2 - 1)).toNat (x44.1, x44.2)), w64 (s17.2 - 1)))
 else
  some (.inr s17.1))) (xs11, w64 ((xs11.length : Int) - 1))) fun o16 =>
  (gslice o16 0 (min k_2 (o16.length : Int))).bind fun xs76 =>
  some xs76

noncomputable def M.spec_nearest (list_0 : List (Int × (List Int) × Int)) (kind_1 : Int) (at_2 : List Int) (k_3 : Int) : Option ((List (Int × Int))) :=
  Option.bind (loopM (fun (s4 : (List (Int × Int)) × (Int)) => (bif decide (s4.2 < (list_0.length : Int)) then
  (gidx list_0 s4.2).bind fun x9 =>
  (gidx list_0 s4.2).bind fun x15 =>
  (M.spec_dist kind_1 x15.2.1 at_2).bind fun r25 =>
  (M.spec_addHit s4.1 (x9.1, r25) k_3).bind fun r31 =>
  some (.inl (r31, w64 (s4.2 + 1)))
 else
  some (.inr s4.1))) (([] : List (Int × Int)), 0)) fun o3 =>
  some o3

noncomputable def M.laws_isIn (list_0 : List Int) (n_1 : Int) : Option Bool :=
  Option.bind (loopM (fun (s2 : (Int)) => (bif decide (s2 < (list_0.length : Int)) then
  (gidx list_0 s2).bind fun x5 =>
  (bif x5 == n_1 then
  some (.inr (.inr true))
 else
  some (.inl (w64 (s2 + 1))))
 else
  some (.inr (.inl ())))) 0) (selim (fun t12 => some false)
   (fun t14 => some t14))

end Go.Vs

namespace Go.Vs

end Go.Vs

namespace Go.Vs

end Go.Vs

namespace Go.Vs

noncomputable def M.slices_xorshift_Next (r_0 : Int) : Option (Int × Int) :=
  some (gxork .u64 (gxork .u64 (gxork .u64 r_0 (gshl .u64 r_0 13)) (gshr .u64 (gxork .u64 r_0 (gshl .u64 r_0 13)) 7)) (gshl .u64 (gxork .u64 (gxork .u64 r_0 (gshl .u64 r_0 13)) (gshr .u64 (gxork .u64 r_0 (gshl .u64 r_0 13)) 7)) 17), gxork .u64 (gxork .u64 (gxork .u64 r_0 (gshl .u64 r_0 13)) (gshr .u64 (gxork .u64 r_0 (gshl .u64 r_0 13)) 7)) (gshl .u64 (gxork .u64 (gxork .u64 r_0 (gshl .u64 r_0 13)) (gshr .u64 (gxork .u64 r_0 (gshl .u64 r_0 13)) 7)) 17))

noncomputable def M.slices_SortFunc_impl_Hit_impl_Hit__impl_compareHits (x_0 : List (Int × Int)) : Option (List (Int × Int)) :=
  M.sortD (fun x y => M.impl_compareHits (x.1, x.2) (y.1, y.2)) x_0

end Go.Vs

namespace Go.Vs

end Go.Vs

namespace Go.Vs

end Go.Vs

namespace Go.Vs

end Go.Vs

namespace Go.Vs

end Go.Vs

namespace Go.Vs

end Go.Vs

namespace Go.Vs

end Go.Vs

namespace Go.Vs

end Go.Vs

namespace Go.Vs

end Go.Vs

namespace Go.Vs

end Go.Vs

namespace Go.Vs

end Go.Vs

namespace Go.Vs

end Go.Vs

namespace Go.Vs

end Go.Vs

namespace Go.Vs

end Go.Vs

namespace Go.Vs

end Go.Vs

namespace Go.Vs

noncomputable def M.spec_validHits (list_0 : List (Int × Int)) : Option Bool :=
  Option.bind (loopM (fun (s2 : (Int)) => (bif decide (s2 < (list_0.length : Int)) then
  Option.bind ((gidx list_0 s2).bind fun x6 =>
  (M.spec_inRange x6.1 1 99).bind fun r12 =>
  (bif !r12 then
  some true
 else
  (gidx list_0 s2).bind fun x17 =>
  (M.spec_inRange x17.2 0 1000000).bind fun r23 =>
  (bif !r23 then
  some true
 else
  (bif decide (0 < s2) then
  (gidx list_0 (w64 (s2 - 1))).bind fun x29 =>
  (gidx list_0 s2).bind fun x36 =>
  (M.spec_nearer (x29.1, x29.2) (x36.1, x36.2)).bind fun r44 =>
  some (!r44)
 else
  some false)))) fun o5 =>
  (bif o5 then
  some (.inr (.inr false))
 else
  Option.bind (loopM (fun (s52 : (Int)) => (bif decide (s52 < s2) then
  (gidx list_0 s52).bind fun x55 =>
  (gidx list_0 s2).bind fun x61 =>
  (bif x55.1 == x61.1 then
  some (.inr (.inr false))
 else
  some (.inl (w64 (s52 + 1))))
 else
  some (.inr (.inl ())))) 0) (selim (fun t70 => some (.inl (w64 (s2 + 1))))
   (fun t72 => some (.inr (.inr t72)))))
 else
  some (.inr (.inl ())))) 0) (selim (fun t74 => some (decide ((list_0.length : Int) ≤ 16)))
   (fun t76 => some t76))

noncomputable def M.spec_hitAt (list_0 : List (Int × Int)) (key_1 : Int) : Option Int :=
  Option.bind (loopM (fun (s2 : (Int)) => (bif decide (s2 < (list_0.length : Int)) then
  (gidx list_0 s2).bind fun x5 =>
  (bif x5.1 == key_1 then
  some (.inr (.inr s2))
 else
  some (.inl (w64 (s2 + 1))))
 else
  some (.inr (.inl ())))) 0) (selim (fun t12 => some (-1))
   (fun t14 => some t14))

noncomputable def M.spec_rankScore (list_0 : List (Int × Int)) (key_1 : Int) : Option Int :=
  (M.spec_hitAt list_0 key_1).bind fun r1 =>
  (bif decide (r1 < 0) then
  some 0
 else
  (gquo 100000 (w64 ((w64 (60 + r1)) + 1))).bind fun q6 =>
  some q6)

noncomputable def M.spec_scoreOf (a_0 : List (Int × Int)) (b_1 : List (Int × Int)) (key_2 : Int) : Option Int :=
  (M.spec_rankScore a_0 key_2).bind fun r1 =>
  (M.spec_rankScore b_1 key_2).bind fun r5 =>
  some (w64 (r1 + r5))

noncomputable def M.spec_FuseRanks (a_0 : List (Int × Int)) (b_1 : List (Int × Int)) : Option ((List Int)) :=
  Option.bind ((M.spec_validHits a_0).bind fun r4 =>
  (bif !r4 then
  some true
 else
  (M.spec_validHits b_1).bind fun r9 =>
  some (!r9))) fun o3 =>
  (bif o3 then
  some []
 else
  Option.bind (loopM (fun (s16 : (List Int) × (Int)) => (bif decide (s16.2 ≤ 99) then
  Option.bind (Option.bind ((M.spec_hitAt a_0 s16.2).bind fun r23 =>
  (bif decide (r23 < 0) then
  (M.spec_hitAt b_1 s16.2).bind fun r28 =>
  some (decide (r28 < 0))
 else
  some false)) fun o22 =>
  (bif o22 then
  some s16.1
 else
  (gapp s16.1 ([s16.2] : List Int)).bind fun xs36 =>
  Option.bind (loopM (fun (s42 : (List Int) × (Int)) => Option.bind ((bif decide (0 < s42.2) then
  (gidx s42.1 s42.2).bind fun x47 =>
  (M.spec_scoreOf a_0 b_1 x47).bind fun r53 =>
  (gidx s42.1 (w64 (s42.2 - 1))).bind fun x56 =>
  (M.spec_scoreOf a_0 b_1 x56).bind fun r63 =>
  some (decide (r63 < r53))
 else
  some false)) fun o45 =>
  (bif o45 then
  (gidx s42.1 s42.2).bind fun x70 =>
  (gidx s42.1 (w64 (s42.2 - 1))).bind fun x76 =>
  (gidx s42.1 s42.2).bind fun x82 =>
  (gidx (s42.1.set s42.2.toNat x76) (w64 (s42.2 - 1))).bind fun x88 =>
  some (.inl (((s42.1.set s42.2.toNat x76).set (w64 (s42.2 - 1)).toNat x70), w64 (s42.2 - 1)))
 else
  some (.inr s42.1))) (xs36, w64 ((xs36.length : Int) - 1))) fun o41 =>
  some o41)) fun o21 =>
  some (.inl (o21, w64 (s16.2 + 1)))
 else
  some (.inr s16.1))) (([] : List Int), 1)) fun o15 =>
  some o15)

noncomputable def M.spec_anyHits (r_0 : (List UInt8) × Int) : Option ((List (Int × Int)) × ((List UInt8) × Int)) :=
  (M.spec_someStore (r_0.1, r_0.2)).bind fun r1 =>
  (M.spec_reader_pick (r1.2.1, r1.2.2) 4).bind fun r9 =>
  (M.spec_someVector (r9.2.1, r9.2.2)).bind fun r15 =>
  (M.spec_reader_one (r15.2.1, r15.2.2) ([3, 5, 16, 1, 8] : List Int)).bind fun r27 =>
  (M.spec_nearest r1.1 (w64 (1 + r9.1)) r15.1 r27.1).bind fun r37 =>
  (M.spec_reader_pick (r27.2.1, r27.2.2) 20).bind fun r43 =>
  Option.bind ((bif r43.1 == 0 then
  (M.spec_reader_one (r43.2.1, r43.2.2) ([0, 5, 100] : List Int)).bind fun r55 =>
  (M.spec_reader_one (r55.2.1, r55.2.2) ([0, 1000000, 1000001] : List Int)).bind fun r65 =>
  (gapp r37 ([(r55.1, r65.1)] : List (Int × Int))).bind fun xs73 =>
  some ((r65.2.1, r65.2.2), xs73)
 else
  (bif r43.1 == 1 then
  (bif decide (0 < (r37.length : Int)) then
  (gidx r37 0).bind fun x80 =>
  (gapp r37 ([(x80.1, x80.2)] : List (Int × Int))).bind fun xs89 =>
  some ((r43.2.1, r43.2.2), xs89)
 else
  some ((r43.2.1, r43.2.2), r37))
 else
  some ((r43.2.1, r43.2.2), r37)))) fun o49 =>
  some (o49.2, (o49.1.1, o49.1.2))

noncomputable def M.spec_DrawFuseRanks (code_0 : List UInt8) : Option ((List (Int × Int)) × (List (Int × Int))) :=
  (M.spec_newReader code_0).bind fun r1 =>
  (M.spec_anyHits (r1.1, r1.2)).bind fun r8 =>
  (M.spec_anyHits (r8.2.1, r8.2.2)).bind fun r16 =>
  some (r8.1, r16.1)

end Go.Vs

namespace Go.Vs

end Go.Vs

namespace Go.Vs

end Go.Vs

namespace Go.Vs

end Go.Vs

namespace Go.Vs

end Go.Vs

namespace Go.Vs

noncomputable def M.impl_validHit (h_0 : Int × Int) : Option Bool :=
  (M.impl_validKey h_0.1).bind fun r4 =>
  (bif r4 then
  (bif decide (0 ≤ h_0.2) then
  some (decide (h_0.2 ≤ 1000000))
 else
  some false)
 else
  some false)

noncomputable def M.impl_placeIn_1__p3 (h_0 : Int × Int) (p_1 : Int) : Option Bool :=
  some (h_0.1 == p_1)

noncomputable def M.slices_IndexFunc_impl_Hit_impl_Hit__impl_placeIn_1 (s_0 : List (Int × Int)) (f_1_0 : Int) : Option Int :=
  Option.bind (loopM (fun (s2 : (Int)) => (bif decide (s2 < (s_0.length : Int)) then
  (gidx s_0 s2).bind fun x5 =>
  (M.impl_placeIn_1__p3 (x5.1, x5.2) f_1_0).bind fun r12 =>
  (bif r12 then
  some (.inr (.inr s2))
 else
  some (.inl (w64 (s2 + 1))))
 else
  some (.inr (.inl ())))) 0) (selim (fun t17 => some (-1))
   (fun t19 => some t19))

noncomputable def M.impl_placeIn (list_0 : List (Int × Int)) (key_1 : Int) : Option Int :=
  (M.slices_IndexFunc_impl_Hit_impl_Hit__impl_placeIn_1 list_0 key_1).bind fun r3 =>
  some r3

noncomputable def M.impl_ValidHits (list_0 : List (Int × Int)) : Option Bool :=
  (bif decide (16 < (list_0.length : Int)) then
  some false
 else
  Option.bind (loopM (fun (s3 : (Int)) => (bif decide (s3 < (list_0.length : Int)) then
  (gidx list_0 s3).bind fun x6 =>
  Option.bind ((M.impl_validHit (x6.1, x6.2)).bind fun r18 =>
  (bif !r18 then
  some true
 else
  (bif decide (0 < s3) then
  (gidx list_0 (w64 (s3 - 1))).bind fun x24 =>
  (M.impl_compareHits (x24.1, x24.2) (x6.1, x6.2)).bind fun r33 =>
  some (decide (0 ≤ r33))
 else
  some false))) fun o16 =>
  (bif o16 then
  some (.inr (.inr false))
 else
  (gslice list_0 0 s3).bind fun xs40 =>
  (M.impl_placeIn xs40 x6.1).bind fun r49 =>
  (bif decide (0 ≤ r49) then
  some (.inr (.inr false))
 else
  some (.inl (w64 (s3 + 1)))))
 else
  some (.inr (.inl ())))) 0) (selim (fun t54 => some true)
   (fun t56 => some t56)))

noncomputable def M.slices_Grow_impl_Hit_impl_Hit (s_0 : List (Int × Int)) (n_1 : Int) : Option ((List (Int × Int))) :=
  (bif decide (n_1 < 0) then
  none
 else
  Option.bind ((bif decide (0 < (w64 (n_1 - (w64 ((s_0.length : Int) - (s_0.length : Int)))))) then
  (gslice s_0 0 (s_0.length : Int)).bind fun xs4 =>
  (gappz xs4 (w64 (n_1 - (w64 ((s_0.length : Int) - (s_0.length : Int))))) ((0, 0) : Int × Int)).bind fun xs10 =>
  (gslice xs10 0 (s_0.length : Int)).bind fun xs15 =>
  some xs15
 else
  some s_0)) fun o2 =>
  some o2)

noncomputable def M.slices_Concat_impl_Hit_impl_Hit (slices_0 : List (List (Int × Int))) : Option ((List (Int × Int))) :=
  Option.bind (loopM (fun (s2 : (Int) × (Int)) => (bif decide (s2.2 < (slices_0.length : Int)) then
  (gidx slices_0 s2.2).bind fun x5 =>
  (bif decide ((w64 (s2.1 + (x5.length : Int))) < 0) then
  none
 else
  some (.inl (w64 (s2.1 + (x5.length : Int)), w64 (s2.2 + 1))))
 else
  some (.inr s2.1))) (0, 0)) fun o1 =>
  (M.slices_Grow_impl_Hit_impl_Hit ([] : List (Int × Int)) o1).bind fun r17 =>
  Option.bind (loopM (fun (s24 : (List (Int × Int)) × (Int)) => (bif decide (s24.2 < (slices_0.length : Int)) then
  (gidx slices_0 s24.2).bind fun x29 =>
  (gapp s24.1 x29).bind fun xs39 =>
  some (.inl (xs39, w64 (s24.2 + 1)))
 else
  some (.inr s24.1))) (r17, 0)) fun o23 =>
  some o23

noncomputable def M.impl_mergedHits (a_0 : List (Int × Int)) (b_1 : List (Int × Int)) : Option ((List (Int × Int))) :=
  (M.slices_Concat_impl_Hit_impl_Hit ([a_0, b_1] : List (List (Int × Int)))).bind fun r5 =>
  (M.slices_SortFunc_impl_Hit_impl_Hit__impl_compareHits r5).bind fun r11 =>
  Option.bind (loopM (fun (s17 : (List (Int × Int)) × (Int)) => (bif decide (s17.2 < (r11.length : Int)) then
  Option.bind ((gidx r11 s17.2).bind fun x23 =>
  (M.impl_placeIn s17.1 x23.1).bind fun r34 =>
  (bif decide (r34 < 0) then
  (gapp s17.1 ([(x23.1, x23.2)] : List (Int × Int))).bind fun xs42 =>
  some xs42
 else
  some s17.1)) fun o22 =>
  some (.inl (o22, w64 (s17.2 + 1)))
 else
  some (.inr s17.1))) ([], 0)) fun o16 =>
  some o16

noncomputable def M.impl_RankScore (list_0 : List (Int × Int)) (key_1 : Int) : Option Int :=
  (M.impl_ValidHits list_0).bind fun r1 =>
  (bif !r1 then
  some (-1)
 else
  (M.impl_placeIn list_0 key_1).bind fun r6 =>
  (bif decide (r6 < 0) then
  some 0
 else
  (gquo 100000 (w64 ((w64 (60 + r6)) + 1))).bind fun q11 =>
  some q11))

end Go.Vs

namespace Go.Vs

end Go.Vs

namespace Go.Vs

end Go.Vs

namespace Go.Vs

noncomputable def M.maps_Keys_map_int_int_int_int (m_0 : List (Int × Int)) : Option Unit :=
  some ()

noncomputable def M.impl_FuseRanks_1__p_map_int_int (x_0 : Int) (y_1 : Int) (p_2 : List (Int × Int)) : Option Int :=
  (M.cmp_Compare_int (iget p_2 y_1) (iget p_2 x_0)).bind fun r5 =>
  (M.cmp_Compare_int x_0 y_1).bind fun r9 =>
  (M.cmp_Or_int ([r5, r9] : List Int)).bind fun r17 =>
  some r17

noncomputable def M.slices_SortedFunc_int__maps_Keys_map_int_int_int_int_1__impl_FuseRanks_1 (seq_0_0 : List (Int × Int)) (cmp_1_0 : List (Int × Int)) : Option (List Int) :=
  M.sortD (fun x y => M.impl_FuseRanks_1__p_map_int_int x y seq_0_0) (seq_0_0.map (·.1))

noncomputable def M.impl_FuseRanks (a_0 : List (Int × Int)) (b_1 : List (Int × Int)) : Option ((List Int)) :=
  Option.bind ((M.impl_ValidHits a_0).bind fun r2 =>
  (bif !r2 then
  some true
 else
  (M.impl_ValidHits b_1).bind fun r7 =>
  some (!r7))) fun o1 =>
  (bif o1 then
  some []
 else
  (M.impl_mergedHits a_0 b_1).bind fun r20 =>
  Option.bind (loopM (fun (s27 : (List (Int × Int)) × (Int)) => (bif decide (s27.2 < (r20.length : Int)) then
  (gidx r20 s27.2).bind fun x33 =>
  (M.impl_RankScore a_0 x33.1).bind fun r46 =>
  (M.impl_RankScore b_1 x33.1).bind fun r50 =>
  some (.inl ((iput s27.1 x33.1 (w64 (r46 + r50))), w64 (s27.2 + 1)))
 else
  some (.inr s27.1))) (([] : List (Int × Int)), 0)) fun o26 =>
  (M.maps_Keys_map_int_int_int_int o26).bind fun r63 =>
  (M.slices_SortedFunc_int__maps_Keys_map_int_int_int_int_1__impl_FuseRanks_1 o26 o26).bind fun r68 =>
  some r68)

noncomputable def M.laws_FnFuseRanks (code_0 : List UInt8) : Option Bool :=
  (bif decide (1048576 < (code_0.length : Int)) then
  some true
 else
  (M.spec_DrawFuseRanks code_0).bind fun r2 =>
  (M.impl_FuseRanks r2.1 r2.2).bind fun r10 =>
  Option.bind ((M.spec_FuseRanks r2.1 r2.2).bind fun r17 =>
  (M.laws_equalInts r10 r17).bind fun r25 =>
  (bif !r25 then
  some true
 else
  (M.impl_ValidHits r2.1).bind fun r30 =>
  (bif !r30 then
  some true
 else
  (M.impl_ValidHits r2.2).bind fun r35 =>
  some (!r35)))) fun o16 =>
  (bif o16 then
  (M.spec_FuseRanks r2.1 r2.2).bind fun r45 =>
  (M.laws_equalInts r10 r45).bind fun r55 =>
  some r55
 else
  Option.bind (loopM (fun (s60 : (Int)) => (bif decide (s60 < (r10.length : Int)) then
  Option.bind ((gidx r10 s60).bind fun x68 =>
  (M.impl_RankScore r2.1 x68).bind fun r74 =>
  (gidx r10 s60).bind fun x77 =>
  (M.impl_RankScore r2.2 x77).bind fun r84 =>
  Option.bind ((bif decide ((w64 (r74 + r84)) < 1) then
  some true
 else
  (gslice r10 0 s60).bind fun xs92 =>
  (gidx r10 s60).bind fun x98 =>
  (M.laws_isIn xs92 x98).bind fun r106 =>
  some r106)) fun o88 =>
  (bif o88 then
  some (.inr false)
 else
  (bif decide (0 < s60) then
  (gidx r10 (w64 (s60 - 1))).bind fun x113 =>
  (M.impl_RankScore r2.1 x113).bind fun r119 =>
  (gidx r10 (w64 (s60 - 1))).bind fun x122 =>
  (M.impl_RankScore r2.2 x122).bind fun r129 =>
  Option.bind ((bif decide ((w64 (r119 + r129)) < (w64 (r74 + r84))) then
  some true
 else
  (bif (w64 (r119 + r129)) == (w64 (r74 + r84)) then
  (gidx r10 (w64 (s60 - 1))).bind fun x138 =>
  (gidx r10 s60).bind fun x144 =>
  some (decide (x144 ≤ x138))
 else
  some false))) fun o133 =>
  (bif o133 then
  some (.inr false)
 else
  some (.inl ()))
 else
  some (.inl ())))) (selim (fun t156 => some (.inl (w64 (s60 + 1))))
   (fun t158 => some (.inr (.inr t158))))
 else
  some (.inr (.inl ())))) 0) (selim (fun t160 => Option.bind (loopM (fun (s163 : (Int)) => (bif decide (s163 < (r2.1.length : Int)) then
  (gidx r2.1 s163).bind fun x166 =>
  (M.laws_isIn r10 x166.1).bind fun r172 =>
  (bif !r172 then
  some (.inr (.inr false))
 else
  some (.inl (w64 (s163 + 1))))
 else
  some (.inr (.inl ())))) 0) (selim (fun t177 => Option.bind (loopM (fun (s180 : (Int)) => (bif decide (s180 < (r2.2.length : Int)) then
  (gidx r2.2 s180).bind fun x183 =>
  (M.laws_isIn r10 x183.1).bind fun r189 =>
  (bif !r189 then
  some (.inr (.inr false))
 else
  some (.inl (w64 (s180 + 1))))
 else
  some (.inr (.inl ())))) 0) (selim (fun t194 => some true)
   (fun t196 => some t196)))
   (fun t198 => some t198)))
   (fun t200 => some t200))))

end Go.Vs
