/- What the functions compute. -/
import Derived.Test.YtcgkbgidfilodaaLibM6
import Derived.Test.YtcgkbgidfilodaaVtView
set_option linter.unusedVariables false
set_option linter.unusedSimpArgs false
namespace Go.Vs

noncomputable def M.slices_Insert_impl_Item_impl_Item (s_0 : List (Int × (List Int) × Int)) (i_1 : Int) (v_2 : List (Int × (List Int) × Int)) : Option ((List (Int × (List Int) × Int))) :=
  (gslice s_0 i_1 (s_0.length : Int)).bind fun xs1 =>
  (bif (v_2.length : Int) == 0 then
  some s_0
 else
  (bif i_1 == (s_0.length : Int) then
  (gapp s_0 v_2).bind fun xs9 =>
  some xs9
 else
  (bif decide ((s_0.length : Int) < (w64 ((s_0.length : Int) + (v_2.length : Int)))) then
  (gslice s_0 0 i_1).bind fun xs15 =>
  (gappz xs15 (w64 ((w64 ((s_0.length : Int) + (v_2.length : Int))) - i_1)) ((0, [], 0) : Int × (List Int) × Int)).bind fun xs21 =>
  (gslice xs21 i_1 (xs21.length : Int)).bind fun xs26 =>
  (gslice (gcopyAt xs21 (i_1).toNat xs26.length v_2) (w64 (i_1 + (v_2.length : Int))) ((gcopyAt xs21 (i_1).toNat xs26.length v_2).length : Int)).bind fun xs33 =>
  (gslice s_0 i_1 (s_0.length : Int)).bind fun xs39 =>
  some (gcopyAt (gcopyAt xs21 (i_1).toNat xs26.length v_2) (w64 (i_1 + (v_2.length : Int))).toNat xs33.length xs39)
 else
  none)))

noncomputable def M.impl_PutItem (list_0 : List (Int × (List Int) × Int)) (x_1 : Int × (List Int) × Int) : Option ((List (Int × (List Int) × Int)) × Bool) :=
  Option.bind ((M.impl_ValidStore list_0).bind fun r4 =>
  (bif !r4 then
  some true
 else
  (M.impl_validItem (x_1.1, x_1.2.1, x_1.2.2)).bind fun r10 =>
  some (!r10))) fun o3 =>
  (bif o3 then
  some ([], false)
 else
  (M.impl_placeOf list_0 x_1.1).bind fun r17 =>
  (bif r17.2 then
  (M.impl_copyItems list_0).bind fun r22 =>
  (M.impl_copyItem (x_1.1, x_1.2.1, x_1.2.2)).bind fun r30 =>
  (gidx r22 r17.1).bind fun x36 =>
  some ((r22.set r17.1.toNat (r30.1, r30.2.1, r30.2.2)), true)
 else
  (bif (list_0.length : Int) == 16 then
  some ([], false)
 else
  (M.impl_copyItems list_0).bind fun r48 =>
  (M.impl_copyItem (x_1.1, x_1.2.1, x_1.2.2)).bind fun r55 =>
  (M.slices_Insert_impl_Item_impl_Item r48 r17.1 ([(r55.1, r55.2.1, r55.2.2)] : List (Int × (List Int) × Int))).bind fun r64 =>
  some (r64, true))))

noncomputable def M.laws_FnPutItem (code_0 : List UInt8) : Option Bool :=
  (bif decide (1048576 < (code_0.length : Int)) then
  some true
 else
  (M.spec_DrawPutItem code_0).bind fun r2 =>
  (M.impl_PutItem r2.1 (r2.2.1, r2.2.2.1, r2.2.2.2)).bind fun r18 =>
  (M.spec_PutItem r2.1 (r2.2.1, r2.2.2.1, r2.2.2.2)).bind fun r25 =>
  Option.bind ((M.laws_equalItems r18.1 r25.1).bind fun r32 =>
  (bif !r32 then
  some true
 else
  (bif r18.2 != r25.2 then
  some true
 else
  some (!r18.2)))) fun o31 =>
  (bif o31 then
  (M.laws_equalItems r18.1 r25.1).bind fun r44 =>
  (bif r44 then
  some (r18.2 == r25.2)
 else
  some false)
 else
  (M.impl_GetItem r18.1 r2.2.1).bind fun r50 =>
  (bif r50.2 then
  (M.laws_equalItem (r50.1.1, r50.1.2.1, r50.1.2.2) (r2.2.1, r2.2.2.1, r2.2.2.2)).bind fun r64 =>
  (bif r64 then
  (M.impl_ValidStore r18.1).bind fun r69 =>
  (bif r69 then
  (bif decide ((r2.1.length : Int) ≤ (r18.1.length : Int)) then
  some (decide ((r18.1.length : Int) ≤ (w64 ((r2.1.length : Int) + 1))))
 else
  some false)
 else
  some false)
 else
  some false)
 else
  some false)))

noncomputable def M.laws_FnPutItemOthers (code_0 : List UInt8) : Option Bool :=
  (bif decide (1048576 < (code_0.length : Int)) then
  some true
 else
  (M.spec_DrawPutItem code_0).bind fun r2 =>
  (M.impl_PutItem r2.1 (r2.2.1, r2.2.2.1, r2.2.2.2)).bind fun r18 =>
  (M.spec_PutItem r2.1 (r2.2.1, r2.2.2.1, r2.2.2.2)).bind fun r25 =>
  Option.bind ((M.laws_equalItems r18.1 r25.1).bind fun r32 =>
  (bif !r32 then
  some true
 else
  (bif r18.2 != r25.2 then
  some true
 else
  some (!r18.2)))) fun o31 =>
  (bif o31 then
  (M.laws_equalItems r18.1 r25.1).bind fun r44 =>
  (bif r44 then
  some (r18.2 == r25.2)
 else
  some false)
 else
  Option.bind (loopM (fun (s50 : (Int)) => (bif decide (s50 ≤ 99) then
  (M.impl_GetItem r2.1 s50).bind fun r53 =>
  (M.impl_GetItem r18.1 s50).bind fun r62 =>
  Option.bind ((bif s50 != r2.2.1 then
  (bif r53.2 != r62.2 then
  some true
 else
  (M.laws_equalItem (r53.1.1, r53.1.2.1, r53.1.2.2) (r62.1.1, r62.1.2.1, r62.1.2.2)).bind fun r81 =>
  some (!r81))
 else
  some false)) fun o71 =>
  (bif o71 then
  some (.inr (.inr false))
 else
  some (.inl (w64 (s50 + 1))))
 else
  some (.inr (.inl ())))) 1) (selim (fun t87 => some true)
   (fun t89 => some t89))))

noncomputable def M.laws_FnPutItemTwice (code_0 : List UInt8) : Option Bool :=
  (bif decide (1048576 < (code_0.length : Int)) then
  some true
 else
  (M.spec_DrawPutItem code_0).bind fun r2 =>
  (M.impl_PutItem r2.1 (r2.2.1, r2.2.2.1, r2.2.2.2)).bind fun r18 =>
  (M.spec_PutItem r2.1 (r2.2.1, r2.2.2.1, r2.2.2.2)).bind fun r25 =>
  Option.bind ((M.laws_equalItems r18.1 r25.1).bind fun r32 =>
  (bif !r32 then
  some true
 else
  (bif r18.2 != r25.2 then
  some true
 else
  some (!r18.2)))) fun o31 =>
  (bif o31 then
  (M.laws_equalItems r18.1 r25.1).bind fun r44 =>
  (bif r44 then
  some (r18.2 == r25.2)
 else
  some false)
 else
  (M.impl_PutItem r18.1 (r2.2.1, ([1, 2, 3, 4] : List Int), 5)).bind fun r60 =>
  (M.impl_PutItem r2.1 (r2.2.1, ([1, 2, 3, 4] : List Int), 5)).bind fun r67 =>
  (bif r60.2 then
  (bif r67.2 then
  (M.laws_equalItems r60.1 r67.1).bind fun r79 =>
  some r79
 else
  some false)
 else
  some false)))

noncomputable def M.slices_Delete_impl_Item_impl_Item (s_0 : List (Int × (List Int) × Int)) (i_1 : Int) (j_2 : Int) : Option ((List (Int × (List Int) × Int))) :=
  (gthree i_1 j_2 (s_0.length : Int) s_0.length).bind fun o1 =>
  (bif i_1 == j_2 then
  some s_0
 else
  (gslice s_0 0 i_1).bind fun xs4 =>
  (gslice s_0 j_2 (s_0.length : Int)).bind fun xs10 =>
  (gapp xs4 xs10).bind fun xs17 =>
  some xs17)

noncomputable def M.impl_DropItem (list_0 : List (Int × (List Int) × Int)) (key_1 : Int) : Option ((List (Int × (List Int) × Int)) × Bool) :=
  (M.impl_ValidStore list_0).bind fun r1 =>
  (bif !r1 then
  some ([], false)
 else
  (M.impl_placeOf list_0 key_1).bind fun r6 =>
  (bif !r6.2 then
  some ([], false)
 else
  (M.impl_copyItems list_0).bind fun r11 =>
  (M.slices_Delete_impl_Item_impl_Item r11 r6.1 (w64 (r6.1 + 1))).bind fun r18 =>
  some (r18, true)))

noncomputable def M.laws_FnDropItem (code_0 : List UInt8) : Option Bool :=
  (bif decide (1048576 < (code_0.length : Int)) then
  some true
 else
  (M.spec_DrawDropItem code_0).bind fun r2 =>
  (M.impl_DropItem r2.1 r2.2).bind fun r8 =>
  (M.spec_DropItem r2.1 r2.2).bind fun r14 =>
  Option.bind ((M.laws_equalItems r8.1 r14.1).bind fun r21 =>
  (bif !r21 then
  some true
 else
  (bif r8.2 != r14.2 then
  some true
 else
  some (!r8.2)))) fun o20 =>
  (bif o20 then
  (M.laws_equalItems r8.1 r14.1).bind fun r33 =>
  (bif r33 then
  some (r8.2 == r14.2)
 else
  some false)
 else
  (M.impl_GetItem r2.1 r2.2).bind fun r38 =>
  (M.impl_GetItem r8.1 r2.2).bind fun r47 =>
  (M.impl_PutItem r8.1 (r38.1.1, r38.1.2.1, r38.1.2.2)).bind fun r61 =>
  (bif r38.2 then
  (bif !r47.2 then
  (bif r61.2 then
  (M.laws_equalItems r61.1 r2.1).bind fun r72 =>
  (bif r72 then
  some ((r8.1.length : Int) == (w64 ((r2.1.length : Int) - 1)))
 else
  some false)
 else
  some false)
 else
  some false)
 else
  some false)))

noncomputable def M.laws_FnPutItemOrder (code_0 : List UInt8) : Option Bool :=
  (bif decide (1048576 < (code_0.length : Int)) then
  some true
 else
  (M.spec_DrawPutItem code_0).bind fun r2 =>
  (M.impl_PutItem r2.1 (r2.2.1, r2.2.2.1, r2.2.2.2)).bind fun r18 =>
  (M.spec_PutItem r2.1 (r2.2.1, r2.2.2.1, r2.2.2.2)).bind fun r25 =>
  Option.bind ((M.laws_equalItems r18.1 r25.1).bind fun r32 =>
  (bif !r32 then
  some true
 else
  (bif r18.2 != r25.2 then
  some true
 else
  (bif !r18.2 then
  some true
 else
  some (r2.2.1 == 50))))) fun o31 =>
  (bif o31 then
  (M.laws_equalItems r18.1 r25.1).bind fun r46 =>
  (bif r46 then
  some (r18.2 == r25.2)
 else
  some false)
 else
  (M.impl_PutItem r18.1 (50, ([4, 3, 2, 1] : List Int), 0)).bind fun r61 =>
  (M.impl_PutItem r2.1 (50, ([4, 3, 2, 1] : List Int), 0)).bind fun r68 =>
  (M.impl_PutItem r68.1 (r2.2.1, r2.2.2.1, r2.2.2.2)).bind fun r77 =>
  (bif !r61.2 then
  some true
 else
  (bif !r68.2 then
  some true
 else
  (bif r77.2 then
  (M.laws_equalItems r61.1 r77.1).bind fun r90 =>
  some r90
 else
  some false)))))

noncomputable def M.laws_FnDropItemOrder (code_0 : List UInt8) : Option Bool :=
  (bif decide (1048576 < (code_0.length : Int)) then
  some true
 else
  (M.spec_DrawDropItem code_0).bind fun r2 =>
  (M.impl_DropItem r2.1 r2.2).bind fun r8 =>
  (M.spec_DropItem r2.1 r2.2).bind fun r14 =>
  Option.bind ((M.laws_equalItems r8.1 r14.1).bind fun r21 =>
  (bif !r21 then
  some true
 else
  (bif r8.2 != r14.2 then
  some true
 else
  (bif !r8.2 then
  some true
 else
  some ((r8.1.length : Int) == 0))))) fun o20 =>
  (bif o20 then
  (M.laws_equalItems r8.1 r14.1).bind fun r34 =>
  (bif r34 then
  some (r8.2 == r14.2)
 else
  some false)
 else
  (grem (code_0.length : Int) (r8.1.length : Int)).bind fun q39 =>
  (gidx r8.1 q39).bind fun x41 =>
  (M.impl_DropItem r8.1 x41.1).bind fun r49 =>
  (M.impl_DropItem r2.1 x41.1).bind fun r55 =>
  (M.impl_DropItem r55.1 r2.2).bind fun r63 =>
  (bif r49.2 then
  (bif r55.2 then
  (bif r63.2 then
  (M.laws_equalItems r49.1 r63.1).bind fun r76 =>
  some r76
 else
  some false)
 else
  some false)
 else
  some false)))

noncomputable def M.laws_FnBoundsOfPut (code_0 : List UInt8) : Option Bool :=
  (bif decide (1048576 < (code_0.length : Int)) then
  some true
 else
  (M.spec_DrawPutItem code_0).bind fun r2 =>
  (M.impl_PutItem r2.1 (r2.2.1, r2.2.2.1, r2.2.2.2)).bind fun r18 =>
  (M.spec_PutItem r2.1 (r2.2.1, r2.2.2.1, r2.2.2.2)).bind fun r25 =>
  Option.bind ((M.laws_equalItems r18.1 r25.1).bind fun r32 =>
  (bif !r32 then
  some true
 else
  (bif r18.2 != r25.2 then
  some true
 else
  (bif !r18.2 then
  some true
 else
  (bif (r2.1.length : Int) == 0 then
  some true
 else
  some ((r18.1.length : Int) == (r2.1.length : Int))))))) fun o31 =>
  (bif o31 then
  (M.laws_equalItems r18.1 r25.1).bind fun r46 =>
  (bif r46 then
  some (r18.2 == r25.2)
 else
  some false)
 else
  (M.impl_BoundsOf r2.1).bind fun r51 =>
  (M.impl_BoundsOf r18.1).bind fun r63 =>
  Option.bind (loopM (fun (s74 : (Int)) => (bif decide (s74 < 4) then
  Option.bind ((bif !r51.2.2 then
  some true
 else
  (bif !r63.2.2 then
  some true
 else
  (gidx r63.1 s74).bind fun x82 =>
  (gidx r51.1 s74).bind fun x88 =>
  (gidx r2.2.2.1 s74).bind fun x95 =>
  (bif x82 != (min x88 x95) then
  some true
 else
  (gidx r63.2.1 s74).bind fun x103 =>
  (gidx r51.2.1 s74).bind fun x109 =>
  (gidx r2.2.2.1 s74).bind fun x116 =>
  some (x103 != (max x109 x116)))))) fun o77 =>
  (bif o77 then
  some (.inr (.inr false))
 else
  some (.inl (w64 (s74 + 1))))
 else
  some (.inr (.inl ())))) 0) (selim (fun t125 => some true)
   (fun t127 => some t127))))

end Go.Vs
