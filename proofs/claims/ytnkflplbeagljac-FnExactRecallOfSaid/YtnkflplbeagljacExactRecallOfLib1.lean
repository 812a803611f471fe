/- What the functions compute. -/
import Derived.Test.YtnkflplbeagljacExactRecallOfEng1
set_option linter.unusedVariables false
set_option linter.unusedSimpArgs false
namespace Go.Vs

noncomputable def M.spec_inRange (n_0 : Int) (low_1 : Int) (high_2 : Int) : Option Bool :=
  (bif decide (low_1 ≤ n_0) then
  some (decide (n_0 ≤ high_2))
 else
  some false)

noncomputable def M.spec_toInt (b_0 : Bool) : Option Int :=
  (bif b_0 then
  some 1
 else
  some 0)

noncomputable def M.impl_validKey (key_0 : Int) : Option Bool :=
  (bif decide (1 ≤ key_0) then
  some (decide (key_0 ≤ 99))
 else
  some false)

noncomputable def M.cmp_isNaN_int (x_0 : Int) : Option Bool :=
  some (x_0 != x_0)

noncomputable def M.cmp_Compare_int (x_0 : Int) (y_1 : Int) : Option Int :=
  (M.cmp_isNaN_int x_0).bind fun r1 =>
  (M.cmp_isNaN_int y_1).bind fun r5 =>
  (bif r1 then
  (bif r5 then
  some 0
 else
  some (-1))
 else
  (bif r5 then
  some 1
 else
  (bif decide (x_0 < y_1) then
  some (-1)
 else
  (bif decide (y_1 < x_0) then
  some 1
 else
  some 0))))

end Go.Vs

namespace Go.Vs

end Go.Vs

namespace Go.Vs

end Go.Vs

namespace Go.Vs

end Go.Vs

namespace Go.Vs

end Go.Vs

namespace Go.Vs

noncomputable def M.cmp_Or_int (vals_0 : List Int) : Option Int :=
  Option.bind (loopM (fun (s2 : (Int)) => (bif decide (s2 < (vals_0.length : Int)) then
  (gidx vals_0 s2).bind fun x5 =>
  (bif x5 != 0 then
  some (.inr (.inr x5))
 else
  some (.inl (w64 (s2 + 1))))
 else
  some (.inr (.inl ())))) 0) (selim (fun t12 => some 0)
   (fun t14 => some t14))

noncomputable def M.impl_compareHits (a_0 : Int × Int) (b_1 : Int × Int) : Option Int :=
  (M.cmp_Compare_int a_0.2 b_1.2).bind fun r7 =>
  (M.cmp_Compare_int a_0.1 b_1.1).bind fun r13 =>
  (M.cmp_Or_int ([r7, r13] : List Int)).bind fun r21 =>
  some r21

noncomputable def M.spec_nearer (a_0 : Int × Int) (b_1 : Int × Int) : Option Bool :=
  (bif decide (a_0.2 < b_1.2) then
  some true
 else
  (bif a_0.2 == b_1.2 then
  some (decide (a_0.1 < b_1.1))
 else
  some false))

end Go.Vs

namespace Go.Vs

end Go.Vs

namespace Go.Vs

end Go.Vs

namespace Go.Vs

end Go.Vs

namespace Go.Vs

end Go.Vs

namespace Go.Vs

noncomputable def M.laws_eqHit (a_0 : Int × Int) (b_1 : Int × Int) : Option Bool :=
  (bif a_0.1 != b_1.1 then
  some false
 else
  (bif a_0.2 != b_1.2 then
  some false
 else
  some true))

noncomputable def M.laws_eqHitS (a_0 : List (Int × Int)) (b_1 : List (Int × Int)) : Option Bool :=
  (bif (a_0.length : Int) != (b_1.length : Int) then
  some false
 else
  Option.bind (loopM (fun (s3 : (Int)) => (bif decide (s3 < (a_0.length : Int)) then
  (gidx a_0 s3).bind fun x6 =>
  (gidx b_1 s3).bind fun x13 =>
  (M.laws_eqHit (x6.1, x6.2) (x13.1, x13.2)).bind fun r21 =>
  (bif !r21 then
  some (.inr (.inr false))
 else
  some (.inl (w64 (s3 + 1))))
 else
  some (.inr (.inl ())))) 0) (selim (fun t26 => some true)
   (fun t28 => some t28)))

end Go.Vs

namespace Go.Vs

end Go.Vs

namespace Go.Vs

end Go.Vs

namespace Go.Vs

end Go.Vs

namespace Go.Vs

end Go.Vs

namespace Go.Vs

end Go.Vs

namespace Go.Vs

end Go.Vs

namespace Go.Vs

end Go.Vs

namespace Go.Vs

end Go.Vs

namespace Go.Vs

end Go.Vs

namespace Go.Vs

end Go.Vs

namespace Go.Vs

end Go.Vs

namespace Go.Vs

end Go.Vs

namespace Go.Vs

noncomputable def M.laws_szHitS (a_0 : List (Int × Int)) (left_1 : Int) : Option Int :=
  (bif decide ((w64 (left_1 - (a_0.length : Int))) < 0) then
  some (-1)
 else
  some (w64 (left_1 - (a_0.length : Int))))

noncomputable def M.laws_toHit (a_0 : Int × Int) : Option ((Int × Int)) :=
  some (a_0.1, a_0.2)

noncomputable def M.laws_toHitS (a_0 : List (Int × Int)) : Option ((List (Int × Int))) :=
  (gmake (a_0.length : Int) ((0, 0) : Int × Int)).bind fun xs1 =>
  Option.bind (loopM (fun (s8 : (List (Int × Int)) × (Int)) => (bif decide (s8.2 < (a_0.length : Int)) then
  (gidx a_0 s8.2).bind fun x13 =>
  (M.laws_toHit (x13.1, x13.2)).bind fun r20 =>
  (gidx s8.1 s8.2).bind fun x24 =>
  some (.inl ((s8.1.set s8.2.toNat (r20.1, r20.2)), w64 (s8.2 + 1)))
 else
  some (.inr s8.1))) (xs1, 0)) fun o7 =>
  some o7

noncomputable def M.spec_validHits (list_0 : List (Int × Int)) : Option Bool :=
  Option.bind (loopM (fun (s2 : (Int)) => (bif decide (s2 < (list_0.length : Int)) then
  Option.bind ((gidx list_0 s2).bind fun x6 =>
  (M.spec_inRange x6.1 1 99).bind fun r12 =>
  (bif !r12 then
  some true
 else
  (gidx list_0 s2).bind fun x17 =>
  (M.spec_inRange x17.2 0 1000000).bind fun r23 =>
  (bif !r23 then
  some true
 else
  (bif decide (0 < s2) then
  (gidx list_0 (w64 (s2 - 1))).bind fun x29 =>
  (gidx list_0 s2).bind fun x36 =>
  (M.spec_nearer (x29.1, x29.2) (x36.1, x36.2)).bind fun r44 =>
  some (!r44)
 else
  some false)))) fun o5 =>
  (bif o5 then
  some (.inr (.inr false))
 else
  Option.bind (loopM (fun (s52 : (Int)) => (bif decide (s52 < s2) then
  (gidx list_0 s52).bind fun x55 =>
  (gidx list_0 s2).bind fun x61 =>
  (bif x55.1 == x61.1 then
  some (.inr (.inr false))
 else
  some (.inl (w64 (s52 + 1))))
 else
  some (.inr (.inl ())))) 0) (selim (fun t70 => some (.inl (w64 (s2 + 1))))
   (fun t72 => some (.inr (.inr t72)))))
 else
  some (.inr (.inl ())))) 0) (selim (fun t74 => some (decide ((list_0.length : Int) ≤ 16)))
   (fun t76 => some t76))

noncomputable def M.spec_hitAt (list_0 : List (Int × Int)) (key_1 : Int) : Option Int :=
  Option.bind (loopM (fun (s2 : (Int)) => (bif decide (s2 < (list_0.length : Int)) then
  (gidx list_0 s2).bind fun x5 =>
  (bif x5.1 == key_1 then
  some (.inr (.inr s2))
 else
  some (.inl (w64 (s2 + 1))))
 else
  some (.inr (.inl ())))) 0) (selim (fun t12 => some (-1))
   (fun t14 => some t14))

noncomputable def M.spec_RecallOf (right_0 : List (Int × Int)) (found_1 : List (Int × Int)) : Option Int :=
  Option.bind ((M.spec_validHits right_0).bind fun r2 =>
  (bif !r2 then
  some true
 else
  (M.spec_validHits found_1).bind fun r7 =>
  (bif !r7 then
  some true
 else
  some ((right_0.length : Int) == 0)))) fun o1 =>
  (bif o1 then
  some (-1)
 else
  Option.bind (loopM (fun (s15 : (Int) × (Int)) => (bif decide (s15.2 < (right_0.length : Int)) then
  (gidx right_0 s15.2).bind fun x18 =>
  (M.spec_hitAt found_1 x18.1).bind fun r24 =>
  (M.spec_toInt (decide (0 ≤ r24))).bind fun r28 =>
  some (.inl (w64 (s15.1 + r28), w64 (s15.2 + 1)))
 else
  some (.inr s15.1))) (0, 0)) fun o14 =>
  (gquo (w64 (1000 * o14)) (right_0.length : Int)).bind fun q33 =>
  some q33)

end Go.Vs

namespace Go.Vs

end Go.Vs

namespace Go.Vs

end Go.Vs

namespace Go.Vs

end Go.Vs

namespace Go.Vs

end Go.Vs

namespace Go.Vs

noncomputable def M.impl_validHit (h_0 : Int × Int) : Option Bool :=
  (M.impl_validKey h_0.1).bind fun r4 =>
  (bif r4 then
  (bif decide (0 ≤ h_0.2) then
  some (decide (h_0.2 ≤ 1000000))
 else
  some false)
 else
  some false)

noncomputable def M.impl_placeIn_1__p3 (h_0 : Int × Int) (p_1 : Int) : Option Bool :=
  some (h_0.1 == p_1)

noncomputable def M.slices_IndexFunc_impl_Hit_impl_Hit__impl_placeIn_1 (s_0 : List (Int × Int)) (f_1_0 : Int) : Option Int :=
  Option.bind (loopM (fun (s2 : (Int)) => (bif decide (s2 < (s_0.length : Int)) then
  (gidx s_0 s2).bind fun x5 =>
  (M.impl_placeIn_1__p3 (x5.1, x5.2) f_1_0).bind fun r12 =>
  (bif r12 then
  some (.inr (.inr s2))
 else
  some (.inl (w64 (s2 + 1))))
 else
  some (.inr (.inl ())))) 0) (selim (fun t17 => some (-1))
   (fun t19 => some t19))

noncomputable def M.impl_placeIn (list_0 : List (Int × Int)) (key_1 : Int) : Option Int :=
  (M.slices_IndexFunc_impl_Hit_impl_Hit__impl_placeIn_1 list_0 key_1).bind fun r3 =>
  some r3

noncomputable def M.impl_ValidHits (list_0 : List (Int × Int)) : Option Bool :=
  (bif decide (16 < (list_0.length : Int)) then
  some false
 else
  Option.bind (loopM (fun (s3 : (Int)) => (bif decide (s3 < (list_0.length : Int)) then
  (gidx list_0 s3).bind fun x6 =>
  Option.bind ((M.impl_validHit (x6.1, x6.2)).bind fun r18 =>
  (bif !r18 then
  some true
 else
  (bif decide (0 < s3) then
  (gidx list_0 (w64 (s3 - 1))).bind fun x24 =>
  (M.impl_compareHits (x24.1, x24.2) (x6.1, x6.2)).bind fun r33 =>
  some (decide (0 ≤ r33))
 else
  some false))) fun o16 =>
  (bif o16 then
  some (.inr (.inr false))
 else
  (gslice list_0 0 s3).bind fun xs40 =>
  (M.impl_placeIn xs40 x6.1).bind fun r49 =>
  (bif decide (0 ≤ r49) then
  some (.inr (.inr false))
 else
  some (.inl (w64 (s3 + 1)))))
 else
  some (.inr (.inl ())))) 0) (selim (fun t54 => some true)
   (fun t56 => some t56)))

noncomputable def M.impl_RecallOf (right_0 : List (Int × Int)) (found_1 : List (Int × Int)) : Option Int :=
  Option.bind ((M.impl_ValidHits right_0).bind fun r2 =>
  (bif !r2 then
  some true
 else
  (M.impl_ValidHits found_1).bind fun r7 =>
  (bif !r7 then
  some true
 else
  some ((right_0.length : Int) == 0)))) fun o1 =>
  (bif o1 then
  some (-1)
 else
  Option.bind (loopM (fun (s15 : (Int) × (Int)) => (bif decide (s15.2 < (right_0.length : Int)) then
  Option.bind ((gidx right_0 s15.2).bind fun x19 =>
  (M.impl_placeIn found_1 x19.1).bind fun r30 =>
  (bif decide (0 ≤ r30) then
  some (w64 (s15.1 + 1))
 else
  some s15.1)) fun o18 =>
  some (.inl (o18, w64 (s15.2 + 1)))
 else
  some (.inr s15.1))) (0, 0)) fun o14 =>
  (gquo (w64 (o14 * 1000)) (right_0.length : Int)).bind fun q37 =>
  some q37)

end Go.Vs

namespace Go.Vs

end Go.Vs

namespace Go.Vs

noncomputable def M.laws_FnExactRecallOf (aRight_0 : List (Int × Int)) (aFound_1 : List (Int × Int)) : Option Bool :=
  (M.laws_szHitS aRight_0 1048576).bind fun r1 =>
  (bif decide (r1 < 0) then
  some true
 else
  (M.laws_szHitS aFound_1 r1).bind fun r6 =>
  (bif decide (r6 < 0) then
  some true
 else
  (M.laws_toHitS aRight_0).bind fun r11 =>
  (M.laws_toHitS aFound_1).bind fun r18 =>
  (M.spec_RecallOf r11 r18).bind fun r29 =>
  (M.laws_toHitS aRight_0).bind fun r33 =>
  (M.laws_toHitS aFound_1).bind fun r40 =>
  (M.impl_RecallOf r33 r40).bind fun r47 =>
  (bif r47 != r29 then
  some false
 else
  (M.laws_toHitS aRight_0).bind fun r52 =>
  (M.laws_eqHitS r33 r52).bind fun r63 =>
  (bif !r63 then
  some false
 else
  (M.laws_toHitS aFound_1).bind fun r68 =>
  (M.laws_eqHitS r40 r68).bind fun r79 =>
  (bif !r79 then
  some false
 else
  some true)))))

end Go.Vs

namespace Go.Vs

end Go.Vs
