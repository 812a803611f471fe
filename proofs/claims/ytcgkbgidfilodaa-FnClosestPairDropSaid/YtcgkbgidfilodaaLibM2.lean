/- What the functions compute. -/
import Derived.Test.YtcgkbgidfilodaaLibM1
set_option linter.unusedVariables false
set_option linter.unusedSimpArgs false
namespace Go.Vs

noncomputable def M.spec_someKey (r_0 : (List UInt8) × Int) (list_1 : List (Int × (List Int) × Int)) : Option (Int × ((List UInt8) × Int)) :=
  Option.bind ((bif decide (0 < (list_1.length : Int)) then
  (M.spec_reader_pick (r_0.1, r_0.2) 5).bind fun r3 =>
  some ((r3.2.1, r3.2.2), decide (0 < r3.1))
 else
  some ((r_0.1, r_0.2), false))) fun o1 =>
  (bif o1.2 then
  (M.spec_reader_pick (o1.1.1, o1.1.2) (list_1.length : Int)).bind fun r18 =>
  (gidx list_1 r18.1).bind fun x26 =>
  some (x26.1, (r18.2.1, r18.2.2))
 else
  (M.spec_reader_one (o1.1.1, o1.1.2) ([5, 99, 0, 31, -1] : List Int)).bind fun r41 =>
  some (r41.1, (r41.2.1, r41.2.2)))

noncomputable def M.spec_DrawDropItem (code_0 : List UInt8) : Option ((List (Int × (List Int) × Int)) × Int) :=
  (M.spec_newReader code_0).bind fun r1 =>
  (M.spec_anyStore (r1.1, r1.2)).bind fun r11 =>
  (M.spec_someKey (r11.2.1, r11.2.2) r11.1).bind fun r29 =>
  some (r11.1, r29.1)

noncomputable def M.spec_keyAt (list_0 : List (Int × (List Int) × Int)) (key_1 : Int) : Option Int :=
  Option.bind (loopM (fun (s2 : (Int)) => (bif decide (s2 < (list_0.length : Int)) then
  (gidx list_0 s2).bind fun x7 =>
  (bif x7.1 == key_1 then
  some (.inr (.inr s2))
 else
  some (.inl (w64 (s2 + 1))))
 else
  some (.inr (.inl ())))) 0) (selim (fun t13 => some (-1))
   (fun t15 => some t15))

noncomputable def M.spec_DropItem (list_0 : List (Int × (List Int) × Int)) (key_1 : Int) : Option ((List (Int × (List Int) × Int)) × Bool) :=
  Option.bind ((M.spec_validStore list_0).bind fun r2 =>
  (bif !r2 then
  some true
 else
  (M.spec_keyAt list_0 key_1).bind fun r7 =>
  some (decide (r7 < 0)))) fun o1 =>
  (bif o1 then
  some ([], false)
 else
  Option.bind (loopM (fun (s20 : (List (Int × (List Int) × Int)) × (Int)) => (bif decide (s20.2 < (list_0.length : Int)) then
  Option.bind ((gidx list_0 s20.2).bind fun x29 =>
  (bif x29.1 != key_1 then
  (gidx list_0 s20.2).bind fun x35 =>
  (M.spec_copyItem (x35.1, x35.2.1, x35.2.2)).bind fun r46 =>
  (gapp s20.1 ([(r46.1, r46.2.1, r46.2.2)] : List (Int × (List Int) × Int))).bind fun xs60 =>
  some xs60
 else
  some s20.1)) fun o28 =>
  some (.inl (o28, w64 (s20.2 + 1)))
 else
  some (.inr s20.1))) (([] : List (Int × (List Int) × Int)), 0)) fun o19 =>
  some (o19, true))

noncomputable def M.spec_DrawGetItem (code_0 : List UInt8) : Option ((List (Int × (List Int) × Int)) × Int) :=
  (M.spec_DrawDropItem code_0).bind fun r1 =>
  some (r1.1, r1.2)

noncomputable def M.spec_GetItem (list_0 : List (Int × (List Int) × Int)) (key_1 : Int) : Option ((Int × (List Int) × Int) × Bool) :=
  Option.bind ((M.spec_validStore list_0).bind fun r8 =>
  (bif !r8 then
  some true
 else
  (M.spec_keyAt list_0 key_1).bind fun r14 =>
  some (decide (r14 < 0)))) fun o7 =>
  (bif o7 then
  some ((0, [], 0), false)
 else
  (M.spec_keyAt list_0 key_1).bind fun r27 =>
  (gidx list_0 r27).bind fun x32 =>
  (M.spec_copyItem (x32.1, x32.2.1, x32.2.2)).bind fun r43 =>
  some ((r43.1, r43.2.1, r43.2.2), true))

noncomputable def M.spec_DrawBoundsOf (code_0 : List UInt8) : Option ((List (Int × (List Int) × Int))) :=
  (M.spec_newReader code_0).bind fun r1 =>
  (M.spec_anyStore (r1.1, r1.2)).bind fun r11 =>
  some r11.1

noncomputable def M.spec_BoundsOf (list_0 : List (Int × (List Int) × Int)) : Option ((List Int) × (List Int) × Bool) :=
  Option.bind ((M.spec_validStore list_0).bind fun r2 =>
  (bif !r2 then
  some true
 else
  some ((list_0.length : Int) == 0))) fun o1 =>
  (bif o1 then
  some ([], [], false)
 else
  (gidx list_0 0).bind fun x10 =>
  (M.spec_copyInts x10.2.1).bind fun r20 =>
  (gidx list_0 0).bind fun x27 =>
  (M.spec_copyInts x27.2.1).bind fun r37 =>
  Option.bind (loopM (fun (s47 : (List Int) × (List Int) × (Int)) => (bif decide (s47.2.2 < (list_0.length : Int)) then
  Option.bind (loopM (fun (s60 : (List Int) × (List Int) × (Int)) => (bif decide (s60.2.2 < 4) then
  (gidx s60.1 s60.2.2).bind fun x72 =>
  (gidx list_0 s47.2.2).bind fun x77 =>
  (gidx x77.2.1 s60.2.2).bind fun x87 =>
  (gidx s60.1 s60.2.2).bind fun x93 =>
  (gidx s60.2.1 s60.2.2).bind fun x103 =>
  (gidx list_0 s47.2.2).bind fun x108 =>
  (gidx x108.2.1 s60.2.2).bind fun x118 =>
  (gidx s60.2.1 s60.2.2).bind fun x124 =>
  some (.inl ((s60.1.set s60.2.2.toNat (min x72 x87)), (s60.2.1.set s60.2.2.toNat (max x103 x118)), w64 (s60.2.2 + 1)))
 else
  some (.inr (s60.1, s60.2.1)))) (s47.1, s47.2.1, 0)) fun o59 =>
  some (.inl (o59.1, o59.2, w64 (s47.2.2 + 1)))
 else
  some (.inr (s47.1, s47.2.1)))) (r20, r37, 1)) fun o46 =>
  some (o46.1, o46.2, true))

noncomputable def M.laws_FnDistanceShift (code_0 : List UInt8) : Option Bool :=
  (bif decide (1048576 < (code_0.length : Int)) then
  some true
 else
  (M.spec_DrawDistance code_0).bind fun r2 =>
  (M.impl_Distance r2.1 r2.2.1 r2.2.2).bind fun r21 =>
  Option.bind ((M.spec_Distance r2.1 r2.2.1 r2.2.2).bind fun r41 =>
  (bif r21 != r41 then
  some true
 else
  some (decide (r21 < 0)))) fun o32 =>
  (bif o32 then
  (M.spec_Distance r2.1 r2.2.1 r2.2.2).bind fun r68 =>
  some (r21 == r68)
 else
  Option.bind (loopM (fun (s88 : (List Int) × (List Int) × (Int)) => (bif decide (s88.2.2 < (r2.2.1.length : Int)) then
  (gidx r2.2.1 s88.2.2).bind fun x106 =>
  (gapp s88.1 ([w64 ((w64 (x106 + s88.2.2)) - 1)] : List Int)).bind fun xs120 =>
  (gidx r2.2.2 s88.2.2).bind fun x135 =>
  (gapp s88.2.1 ([w64 ((w64 (x135 + s88.2.2)) - 1)] : List Int)).bind fun xs149 =>
  some (.inl (xs120, xs149, w64 (s88.2.2 + 1)))
 else
  some (.inr (s88.1, s88.2.1)))) (([] : List Int), ([] : List Int), 0)) fun o87 =>
  (M.impl_ValidVector o87.1).bind fun r176 =>
  (bif !r176 then
  some true
 else
  (M.impl_ValidVector o87.2).bind fun r192 =>
  (bif !r192 then
  some true
 else
  (M.impl_Distance r2.1 o87.1 o87.2).bind fun r214 =>
  some (r214 == r21)))))

noncomputable def M.laws_FnDotOfZero (code_0 : List UInt8) : Option Bool :=
  (bif decide (1048576 < (code_0.length : Int)) then
  some true
 else
  (M.spec_DrawDotOf code_0).bind fun r2 =>
  (M.impl_DotOf r2.1 r2.2).bind fun r21 =>
  (M.spec_DotOf r2.1 r2.2).bind fun r40 =>
  Option.bind ((bif r21.1 != r40.1 then
  some true
 else
  (bif r21.2 != r40.2 then
  some true
 else
  some (!r21.2)))) fun o51 =>
  (bif o51 then
  (bif r21.1 == r40.1 then
  some (r21.2 == r40.2)
 else
  some false)
 else
  Option.bind (loopM (fun (s68 : (List Int) × (Int)) => (bif decide (s68.2 < (r2.2.length : Int)) then
  (gidx r2.2 s68.2).bind fun x80 =>
  (gapp s68.1 ([w64 (0 - x80)] : List Int)).bind fun xs93 =>
  some (.inl (xs93, w64 (s68.2 + 1)))
 else
  some (.inr s68.1))) (([] : List Int), 0)) fun o67 =>
  (gmake 4 (0 : Int)).bind fun xs112 =>
  (M.impl_DotOf r2.1 xs112).bind fun r130 =>
  (M.impl_DotOf r2.1 o67).bind fun r152 =>
  (bif r130.2 then
  (bif r130.1 == 0 then
  (bif r152.2 then
  some (r152.1 == (w64 (0 - r21.1)))
 else
  some false)
 else
  some false)
 else
  some false)))

noncomputable def M.laws_FnMeanOfOrder (code_0 : List UInt8) : Option Bool :=
  (bif decide (1048576 < (code_0.length : Int)) then
  some true
 else
  (M.spec_DrawMeanOf code_0).bind fun r2 =>
  (M.impl_MeanOf r2).bind fun r13 =>
  (M.spec_MeanOf r2).bind fun r31 =>
  (M.laws_equalInts r13 r31).bind fun r55 =>
  (bif !r55 then
  some false
 else
  Option.bind (loopM (fun (s76 : (List (List Int)) × (Int)) => (bif decide (0 ≤ s76.2) then
  (gidx r2 s76.2).bind fun x88 =>
  (gapp s76.1 ([x88] : List (List Int))).bind fun xs106 =>
  some (.inl (xs106, w64 (s76.2 - 1)))
 else
  some (.inr s76.1))) (([] : List (List Int)), w64 ((r2.length : Int) - 1))) fun o75 =>
  (M.impl_MeanOf o75).bind fun r130 =>
  (M.laws_equalInts r130 r13).bind fun r149 =>
  some r149))

noncomputable def M.laws_FnMoveToSame (code_0 : List UInt8) : Option Bool :=
  (bif decide (1048576 < (code_0.length : Int)) then
  some true
 else
  (M.spec_DrawMoveTo code_0).bind fun r2 =>
  (M.impl_MoveTo r2.1 r2.2.1 r2.2.2).bind fun r21 =>
  Option.bind ((M.spec_MoveTo r2.1 r2.2.1 r2.2.2).bind fun r46 =>
  (M.laws_equalInts r21 r46).bind fun r72 =>
  (bif !r72 then
  some true
 else
  some ((r21.length : Int) == 0))) fun o37 =>
  (bif o37 then
  (M.spec_MoveTo r2.1 r2.2.1 r2.2.2).bind fun r104 =>
  (M.laws_equalInts r21 r104).bind fun r123 =>
  some r123
 else
  (M.impl_MoveTo r2.1 r2.1 r2.2.2).bind fun r131 =>
  (M.laws_equalInts r131 r2.1).bind fun r157 =>
  (bif r157 then
  (M.impl_ValidVector r21).bind fun r168 =>
  some r168
 else
  some false)))

end Go.Vs
