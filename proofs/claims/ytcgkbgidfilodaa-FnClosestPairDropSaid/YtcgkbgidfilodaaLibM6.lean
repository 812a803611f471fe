/- What the functions compute. -/
import Derived.Test.YtcgkbgidfilodaaLibM5
import Derived.Test.YtcgkbgidfilodaaVtKind
set_option linter.unusedVariables false
set_option linter.unusedSimpArgs false
namespace Go.Vs

noncomputable def M.laws_FnValidStore (code_0 : List UInt8) : Option Bool :=
  (bif decide (1048576 < (code_0.length : Int)) then
  some true
 else
  (M.spec_DrawValidStore code_0).bind fun r2 =>
  (M.impl_ValidStore r2).bind fun r8 =>
  Option.bind ((M.spec_ValidStore r2).bind fun r13 =>
  (bif r8 != r13 then
  some true
 else
  (bif !r8 then
  some true
 else
  some ((r2.length : Int) == 0)))) fun o12 =>
  (bif o12 then
  (M.spec_ValidStore r2).bind fun r23 =>
  some (r8 == r23)
 else
  (grem (code_0.length : Int) (r2.length : Int)).bind fun q27 =>
  (gslice r2 0 q27).bind fun xs32 =>
  (gapp ([] : List (Int × (List Int) × Int)) xs32).bind fun xs38 =>
  (gslice r2 (w64 (q27 + 1)) (r2.length : Int)).bind fun xs42 =>
  (gapp xs38 xs42).bind fun xs49 =>
  (M.impl_ValidStore xs49).bind fun r56 =>
  (bif r56 then
  (M.impl_ValidStore ([] : List (Int × (List Int) × Int))).bind fun r61 =>
  some r61
 else
  some false)))

noncomputable def M.spec_DrawPutItem (code_0 : List UInt8) : Option ((List (Int × (List Int) × Int)) × (Int × (List Int) × Int)) :=
  (M.spec_newReader code_0).bind fun r3 =>
  (M.spec_anyStore (r3.1, r3.2)).bind fun r10 =>
  (M.spec_anyItem (r10.2.1, r10.2.2)).bind fun r18 =>
  some (r10.1, (r18.1.1, r18.1.2.1, r18.1.2.2))

noncomputable def M.slices_BinarySearchFunc_impl_Item_impl_Item_int__impl_placeOf_1 (x_0 : List (Int × (List Int) × Int)) (target_1 : Int) : Option (Int × Bool) :=
  Option.bind (loopM (fun (s2 : (Int) × (Int)) => (bif decide (s2.1 < s2.2) then
  (gidx x_0 (wk .i64 (gshr .u64 (wk .u64 (w64 (s2.1 + s2.2))) 1))).bind fun x5 =>
  (M.impl_placeOf_1 (x5.1, x5.2.1, x5.2.2) target_1).bind fun r15 =>
  (bif decide (r15 < 0) then
  some (.inl (w64 ((wk .i64 (gshr .u64 (wk .u64 (w64 (s2.1 + s2.2))) 1)) + 1), s2.2))
 else
  some (.inl (s2.1, wk .i64 (gshr .u64 (wk .u64 (w64 (s2.1 + s2.2))) 1))))
 else
  some (.inr s2.1))) (0, (x_0.length : Int))) fun o1 =>
  (bif decide (o1 < (x_0.length : Int)) then
  (gidx x_0 o1).bind fun x22 =>
  (M.impl_placeOf_1 (x22.1, x22.2.1, x22.2.2) target_1).bind fun r32 =>
  some (o1, r32 == 0)
 else
  some (o1, false))

noncomputable def M.impl_placeOf (list_0 : List (Int × (List Int) × Int)) (key_1 : Int) : Option (Int × Bool) :=
  (M.slices_BinarySearchFunc_impl_Item_impl_Item_int__impl_placeOf_1 list_0 key_1).bind fun r1 =>
  some (r1.1, r1.2)

noncomputable def M.slices_Clone_int_int (s_0 : List Int) : Option ((List Int)) :=
  (gapp ([] : List Int) s_0).bind fun xs4 =>
  some xs4

noncomputable def M.impl_copyItem (x_0 : Int × (List Int) × Int) : Option ((Int × (List Int) × Int)) :=
  (M.slices_Clone_int_int x_0.2.1).bind fun r7 =>
  some (x_0.1, r7, x_0.2.2)

noncomputable def M.impl_copyItems (list_0 : List (Int × (List Int) × Int)) : Option ((List (Int × (List Int) × Int))) :=
  (gmake (list_0.length : Int) ((0, [], 0) : Int × (List Int) × Int)).bind fun xs1 =>
  Option.bind (loopM (fun (s8 : (List (Int × (List Int) × Int)) × (Int)) => (bif decide (s8.2 < (list_0.length : Int)) then
  (gidx list_0 s8.2).bind fun x13 =>
  (M.impl_copyItem (x13.1, x13.2.1, x13.2.2)).bind fun r27 =>
  (gidx s8.1 s8.2).bind fun x33 =>
  some (.inl ((s8.1.set s8.2.toNat (r27.1, r27.2.1, r27.2.2)), w64 (s8.2 + 1)))
 else
  some (.inr s8.1))) (xs1, 0)) fun o7 =>
  some o7

noncomputable def M.impl_GetItem (list_0 : List (Int × (List Int) × Int)) (key_1 : Int) : Option ((Int × (List Int) × Int) × Bool) :=
  (M.impl_ValidStore list_0).bind fun r3 =>
  (bif !r3 then
  some ((0, [], 0), false)
 else
  (M.impl_placeOf list_0 key_1).bind fun r9 =>
  (bif !r9.2 then
  some ((0, [], 0), false)
 else
  (gidx list_0 r9.1).bind fun x15 =>
  (M.impl_copyItem (x15.1, x15.2.1, x15.2.2)).bind fun r25 =>
  some ((r25.1, r25.2.1, r25.2.2), true)))

noncomputable def M.laws_FnGetItem (code_0 : List UInt8) : Option Bool :=
  (bif decide (1048576 < (code_0.length : Int)) then
  some true
 else
  (M.spec_DrawGetItem code_0).bind fun r2 =>
  (M.impl_GetItem r2.1 r2.2).bind fun r8 =>
  (M.spec_GetItem r2.1 r2.2).bind fun r17 =>
  Option.bind ((M.laws_equalItem (r8.1.1, r8.1.2.1, r8.1.2.2) (r17.1.1, r17.1.2.1, r17.1.2.2)).bind fun r29 =>
  (bif !r29 then
  some true
 else
  (bif r8.2 != r17.2 then
  some true
 else
  (M.impl_ValidStore r2.1).bind fun r35 =>
  some (!r35)))) fun o26 =>
  (bif o26 then
  (M.laws_equalItem (r8.1.1, r8.1.2.1, r8.1.2.2) (r17.1.1, r17.1.2.1, r17.1.2.2)).bind fun r47 =>
  (bif r47 then
  some (r8.2 == r17.2)
 else
  some false)
 else
  Option.bind (loopM (fun (s53 : (Bool) × (Int)) => (bif decide (s53.2 < (r2.1.length : Int)) then
  Option.bind ((bif s53.1 then
  some true
 else
  (gidx r2.1 s53.2).bind fun x59 =>
  (bif x59.1 == r2.2 then
  (gidx r2.1 s53.2).bind fun x66 =>
  (M.laws_equalItem (x66.1, x66.2.1, x66.2.2) (r8.1.1, r8.1.2.1, r8.1.2.2)).bind fun r78 =>
  some r78
 else
  some false))) fun o56 =>
  some (.inl (o56, w64 (s53.2 + 1)))
 else
  some (.inr s53.1))) (false, 0)) fun o52 =>
  some (o52 == r8.2)))

noncomputable def M.impl_BoundsOf (list_0 : List (Int × (List Int) × Int)) : Option ((List Int) × (List Int) × Bool) :=
  Option.bind ((M.impl_ValidStore list_0).bind fun r2 =>
  (bif !r2 then
  some true
 else
  some ((list_0.length : Int) == 0))) fun o1 =>
  (bif o1 then
  some ([], [], false)
 else
  (gidx list_0 0).bind fun x9 =>
  (garr 4 x9.2.1).bind fun xs19 =>
  (gidx list_0 0).bind fun x26 =>
  (garr 4 x26.2.1).bind fun xs36 =>
  (gslice list_0 1 (list_0.length : Int)).bind fun xs48 =>
  Option.bind (loopM (fun (s55 : (List Int) × (List Int) × (Int)) => (bif decide (s55.2.2 < (xs48.length : Int)) then
  (gidx xs48 s55.2.2).bind fun x60 =>
  Option.bind (loopM (fun (s75 : (List Int) × (List Int) × (Int)) => (bif decide (s75.2.2 < (x60.2.1.length : Int)) then
  (gidx x60.2.1 s75.2.2).bind fun x80 =>
  (gidx s75.1 s75.2.2).bind fun x86 =>
  (gidx s75.1 s75.2.2).bind fun x90 =>
  (gidx s75.2.1 s75.2.2).bind fun x95 =>
  (gidx s75.2.1 s75.2.2).bind fun x99 =>
  some (.inl ((s75.1.set s75.2.2.toNat (min x86 x80)), (s75.2.1.set s75.2.2.toNat (max x95 x80)), w64 (s75.2.2 + 1)))
 else
  some (.inr (s75.1, s75.2.1)))) (s55.1, s55.2.1, 0)) fun o74 =>
  some (.inl (o74.1, o74.2, w64 (s55.2.2 + 1)))
 else
  some (.inr (s55.1, s55.2.1)))) ((List.take 4 x9.2.1), (List.take 4 x26.2.1), 0)) fun o54 =>
  some (o54.1, o54.2, true))

noncomputable def M.laws_FnBoundsOfTight (code_0 : List UInt8) : Option Bool :=
  (bif decide (1048576 < (code_0.length : Int)) then
  some true
 else
  (M.spec_DrawBoundsOf code_0).bind fun r2 =>
  (M.impl_BoundsOf r2).bind fun r8 =>
  (M.spec_BoundsOf r2).bind fun r18 =>
  Option.bind ((M.laws_equalInts r8.1 r18.1).bind fun r27 =>
  (bif !r27 then
  some true
 else
  (M.laws_equalInts r8.2.1 r18.2.1).bind fun r32 =>
  (bif !r32 then
  some true
 else
  (bif r8.2.2 != r18.2.2 then
  some true
 else
  some (!r8.2.2))))) fun o26 =>
  (bif o26 then
  (M.laws_equalInts r8.1 r18.1).bind fun r44 =>
  (bif r44 then
  (M.laws_equalInts r8.2.1 r18.2.1).bind fun r53 =>
  (bif r53 then
  some (r8.2.2 == r18.2.2)
 else
  some false)
 else
  some false)
 else
  Option.bind (loopM (fun (s59 : (Int)) => (bif decide (s59 < 4) then
  Option.bind (loopM (fun (s63 : (Bool) × (Bool) × (Int)) => (bif decide (s63.2.2 < (r2.length : Int)) then
  Option.bind ((bif s63.1 then
  some true
 else
  (gidx r2 s63.2.2).bind fun x69 =>
  (gidx x69.2.1 s59).bind fun x79 =>
  (gidx r8.1 s59).bind fun x85 =>
  some (x79 == x85))) fun o66 =>
  Option.bind ((bif s63.2.1 then
  some true
 else
  (gidx r2 s63.2.2).bind fun x96 =>
  (gidx x96.2.1 s59).bind fun x106 =>
  (gidx r8.2.1 s59).bind fun x112 =>
  some (x106 == x112))) fun o93 =>
  some (.inl (o66, o93, w64 (s63.2.2 + 1)))
 else
  some (.inr (s63.1, s63.2.1)))) (false, false, 0)) fun o62 =>
  Option.bind ((bif !o62.1 then
  some true
 else
  some (!o62.2))) fun o121 =>
  (bif o121 then
  some (.inr (.inr false))
 else
  some (.inl (w64 (s59 + 1))))
 else
  some (.inr (.inl ())))) 0) (selim (fun t125 => some true)
   (fun t127 => some t127))))

noncomputable def M.impl_insideBox (at_0 : List Int) (low_1 : List Int) (high_2 : List Int) : Option Bool :=
  Option.bind (loopM (fun (s2 : (Int)) => (bif decide (s2 < (at_0.length : Int)) then
  (gidx at_0 s2).bind fun x5 =>
  Option.bind ((gidx low_1 s2).bind fun x12 =>
  (bif decide (x5 < x12) then
  some true
 else
  (gidx high_2 s2).bind fun x19 =>
  some (decide (x19 < x5)))) fun o11 =>
  (bif o11 then
  some (.inr (.inr false))
 else
  some (.inl (w64 (s2 + 1))))
 else
  some (.inr (.inl ())))) 0) (selim (fun t27 => some true)
   (fun t29 => some t29))

noncomputable def M.impl_InBox (list_0 : List (Int × (List Int) × Int)) (low_1 : List Int) (high_2 : List Int) : Option ((List Int)) :=
  Option.bind ((M.impl_ValidStore list_0).bind fun r2 =>
  (bif !r2 then
  some true
 else
  (M.impl_ValidVector low_1).bind fun r7 =>
  (bif !r7 then
  some true
 else
  (M.impl_ValidVector high_2).bind fun r12 =>
  some (!r12)))) fun o1 =>
  (bif o1 then
  some []
 else
  Option.bind (loopM (fun (s19 : (List Int) × (Int)) => (bif decide (s19.2 < (list_0.length : Int)) then
  Option.bind ((gidx list_0 s19.2).bind fun x25 =>
  (M.impl_insideBox x25.2.1 low_1 high_2).bind fun r39 =>
  (bif r39 then
  (gapp s19.1 ([x25.1] : List Int)).bind fun xs47 =>
  some xs47
 else
  some s19.1)) fun o24 =>
  some (.inl (o24, w64 (s19.2 + 1)))
 else
  some (.inr s19.1))) ([], 0)) fun o18 =>
  some o18)

noncomputable def M.laws_FnBoundsOf (code_0 : List UInt8) : Option Bool :=
  (bif decide (1048576 < (code_0.length : Int)) then
  some true
 else
  (M.spec_DrawBoundsOf code_0).bind fun r2 =>
  (M.impl_BoundsOf r2).bind fun r8 =>
  (M.spec_BoundsOf r2).bind fun r18 =>
  Option.bind ((M.laws_equalInts r8.1 r18.1).bind fun r27 =>
  (bif !r27 then
  some true
 else
  (M.laws_equalInts r8.2.1 r18.2.1).bind fun r32 =>
  (bif !r32 then
  some true
 else
  (bif r8.2.2 != r18.2.2 then
  some true
 else
  some (!r8.2.2))))) fun o26 =>
  (bif o26 then
  (M.laws_equalInts r8.1 r18.1).bind fun r44 =>
  (bif r44 then
  (M.laws_equalInts r8.2.1 r18.2.1).bind fun r53 =>
  (bif r53 then
  some (r8.2.2 == r18.2.2)
 else
  some false)
 else
  some false)
 else
  (M.impl_InBox r2 r8.1 r8.2.1).bind fun r58 =>
  (bif (r58.length : Int) == (r2.length : Int) then
  (M.impl_ValidVector r8.1).bind fun r67 =>
  (bif r67 then
  (M.impl_ValidVector r8.2.1).bind fun r74 =>
  some r74
 else
  some false)
 else
  some false)))

noncomputable def M.spec_someK (r_0 : (List UInt8) × Int) : Option (Int × ((List UInt8) × Int)) :=
  (M.spec_reader_one (r_0.1, r_0.2) ([1, 2, 3, 5, 16, 4, 0, 17] : List Int)).bind fun r5 =>
  some (r5.1, (r5.2.1, r5.2.2))

noncomputable def M.spec_DrawNearest (code_0 : List UInt8) : Option ((List (Int × (List Int) × Int)) × Int × (List Int) × Int) :=
  (M.spec_newReader code_0).bind fun r1 =>
  (M.spec_anyStore (r1.1, r1.2)).bind fun r8 =>
  (M.spec_anyKind (r8.2.1, r8.2.2)).bind fun r16 =>
  (M.spec_anyVector (r16.2.1, r16.2.2)).bind fun r22 =>
  Option.bind ((bif decide (0 < (r8.1.length : Int)) then
  (M.spec_reader_pick (r22.2.1, r22.2.2) 5).bind fun r32 =>
  some ((r32.2.1, r32.2.2), r32.1 == 0)
 else
  some ((r22.2.1, r22.2.2), false))) fun o30 =>
  Option.bind ((bif o30.2 then
  (M.spec_reader_pick (o30.1.1, o30.1.2) (r8.1.length : Int)).bind fun r43 =>
  (gidx r8.1 r43.1).bind fun x49 =>
  (M.spec_copyInts x49.2.1).bind fun r59 =>
  some ((r43.2.1, r43.2.2), r59)
 else
  some ((o30.1.1, o30.1.2), r22.1))) fun o41 =>
  (M.spec_someK (o41.1.1, o41.1.2)).bind fun r70 =>
  some (r8.1, r16.1, o41.2, r70.1)

noncomputable def M.impl_validKind (kind_0 : Int) : Option Bool :=
  (bif decide (1 ≤ kind_0) then
  some (decide (kind_0 ≤ 4))
 else
  some false)

noncomputable def M.impl_validSearch (list_0 : List (Int × (List Int) × Int)) (kind_1 : Int) (at_2 : List Int) (k_3 : Int) : Option Bool :=
  (M.impl_ValidStore list_0).bind fun r1 =>
  (bif r1 then
  (M.impl_validKind kind_1).bind fun r6 =>
  (bif r6 then
  (M.impl_ValidVector at_2).bind fun r11 =>
  (bif r11 then
  (bif decide (1 ≤ k_3) then
  some (decide (k_3 ≤ 16))
 else
  some false)
 else
  some false)
 else
  some false)
 else
  some false)

noncomputable def M.impl_hitHeap_Push__impl_Hit (h_0 : List (Int × Int)) (x_1 : Int × Int) : Option ((List (Int × Int))) :=
  (gapp h_0 ([(x_1.1, x_1.2)] : List (Int × Int))).bind fun xs3 =>
  some xs3

noncomputable def M.impl_hitHeap_Len (h_0 : List (Int × Int)) : Option Int :=
  some (h_0.length : Int)

noncomputable def M.cmp_Or_int (vals_0 : List Int) : Option Int :=
  Option.bind (loopM (fun (s2 : (Int)) => (bif decide (s2 < (vals_0.length : Int)) then
  (gidx vals_0 s2).bind fun x5 =>
  (bif x5 != 0 then
  some (.inr (.inr x5))
 else
  some (.inl (w64 (s2 + 1))))
 else
  some (.inr (.inl ())))) 0) (selim (fun t12 => some 0)
   (fun t14 => some t14))

noncomputable def M.impl_compareHits (a_0 : Int × Int) (b_1 : Int × Int) : Option Int :=
  (M.cmp_Compare_int a_0.2 b_1.2).bind fun r7 =>
  (M.cmp_Compare_int a_0.1 b_1.1).bind fun r13 =>
  (M.cmp_Or_int ([r7, r13] : List Int)).bind fun r21 =>
  some r21

noncomputable def M.impl_hitHeap_Less (h_0 : List (Int × Int)) (i_1 : Int) (j_2 : Int) : Option Bool :=
  (gidx h_0 i_1).bind fun x1 =>
  (gidx h_0 j_2).bind fun x8 =>
  (M.impl_compareHits (x1.1, x1.2) (x8.1, x8.2)).bind fun r16 =>
  some (decide (0 < r16))

noncomputable def M.impl_hitHeap_Swap (h_0 : List (Int × Int)) (i_1 : Int) (j_2 : Int) : Option ((List (Int × Int))) :=
  (gidx h_0 j_2).bind fun x1 =>
  (gidx h_0 i_1).bind fun x8 =>
  (gidx h_0 i_1).bind fun x15 =>
  (gidx (h_0.set i_1.toNat (x1.1, x1.2)) j_2).bind fun x21 =>
  some ((h_0.set i_1.toNat (x1.1, x1.2)).set j_2.toNat (x8.1, x8.2))

noncomputable def M.container_heap_up__impl_hitHeap (h_0 : List (Int × Int)) (j_1 : Int) : Option ((List (Int × Int))) :=
  Option.bind (loopM (fun (s2 : (List (Int × Int)) × (Int)) => Option.bind ((bif (w64 ((w64 (s2.2 - 1)).tdiv 2)) == s2.2 then
  some (s2.1, true)
 else
  (M.impl_hitHeap_Less s2.1 s2.2 (w64 ((w64 (s2.2 - 1)).tdiv 2))).bind fun r8 =>
  some (s2.1, !r8))) fun o6 =>
  (bif o6.2 then
  some (.inr o6.1)
 else
  (M.impl_hitHeap_Swap o6.1 (w64 ((w64 (s2.2 - 1)).tdiv 2)) s2.2).bind fun r16 =>
  some (.inl (r16, w64 ((w64 (s2.2 - 1)).tdiv 2))))) (h_0, j_1)) fun o1 =>
  some o1

noncomputable def M.container_heap_Push__impl_hitHeap__impl_Hit (h_0 : List (Int × Int)) (x_1 : Int × Int) : Option ((List (Int × Int))) :=
  (M.impl_hitHeap_Push__impl_Hit h_0 (x_1.1, x_1.2)).bind fun r1 =>
  (M.impl_hitHeap_Len r1).bind fun r7 =>
  (M.container_heap_up__impl_hitHeap r1 (w64 (r7 - 1))).bind fun r11 =>
  some r11

noncomputable def M.container_heap_down__impl_hitHeap (h_0 : List (Int × Int)) (i0_1 : Int) (n_2 : Int) : Option (Bool × (List (Int × Int))) :=
  Option.bind (loopM (fun (s2 : (List (Int × Int)) × (Int)) => Option.bind ((bif decide (n_2 ≤ (w64 ((w64 (2 * s2.2)) + 1))) then
  some true
 else
  some (decide ((w64 ((w64 (2 * s2.2)) + 1)) < 0)))) fun o6 =>
  (bif o6 then
  some (.inr (s2.1, s2.2))
 else
  Option.bind ((bif decide ((w64 ((w64 ((w64 (2 * s2.2)) + 1)) + 1)) < n_2) then
  (M.impl_hitHeap_Less s2.1 (w64 ((w64 ((w64 (2 * s2.2)) + 1)) + 1)) (w64 ((w64 (2 * s2.2)) + 1))).bind fun r12 =>
  some (s2.1, r12)
 else
  some (s2.1, false))) fun o10 =>
  Option.bind ((bif o10.2 then
  some (w64 ((w64 ((w64 (2 * s2.2)) + 1)) + 1))
 else
  some (w64 ((w64 (2 * s2.2)) + 1)))) fun o19 =>
  (M.impl_hitHeap_Less o10.1 o19 s2.2).bind fun r22 =>
  (bif !r22 then
  some (.inr (o10.1, s2.2))
 else
  (M.impl_hitHeap_Swap o10.1 s2.2 o19).bind fun r27 =>
  some (.inl (r27, o19))))) (h_0, i0_1)) fun o1 =>
  some (decide (i0_1 < o1.2), o1.1)

noncomputable def M.impl_hitHeap_Pop (h_0 : List (Int × Int)) : Option (((Int) × (Int)) × (List (Int × Int))) :=
  (gidx h_0 (w64 ((h_0.length : Int) - 1))).bind fun x3 =>
  (gslice h_0 0 (w64 ((h_0.length : Int) - 1))).bind fun xs14 =>
  some ((x3.1, x3.2), xs14)

noncomputable def M.container_heap_Pop__impl_hitHeap (h_0 : List (Int × Int)) : Option (((Int) × (Int)) × (List (Int × Int))) :=
  (M.impl_hitHeap_Len h_0).bind fun r1 =>
  (M.impl_hitHeap_Swap h_0 0 (w64 (r1 - 1))).bind fun r5 =>
  (M.container_heap_down__impl_hitHeap r5 0 (w64 (r1 - 1))).bind fun r10 =>
  (M.impl_hitHeap_Pop r10.2).bind fun r18 =>
  some ((r18.1.1, r18.1.2), r18.2)

noncomputable def M.impl_nearestHits_offer (n_0 : Int × (List (Int × Int))) (h_1 : Int × Int) : Option ((Int × (List (Int × Int)))) :=
  (M.container_heap_Push__impl_hitHeap__impl_Hit n_0.2 (h_1.1, h_1.2)).bind fun r5 =>
  (bif decide (n_0.1 < (r5.length : Int)) then
  (M.container_heap_Pop__impl_hitHeap r5).bind fun r15 =>
  some (n_0.1, r15.2)
 else
  some (n_0.1, r5))

noncomputable def M.impl_hitOf (x_0 : Int × (List Int) × Int) (kind_1 : Int) (at_2 : List Int) : Option ((Int × Int)) :=
  (M.impl_Distance kind_1 x_0.2.1 at_2).bind fun r7 =>
  some (x_0.1, r7)

noncomputable def M.laws_equalHits (a_0 : List (Int × Int)) (b_1 : List (Int × Int)) : Option Bool :=
  (bif (a_0.length : Int) != (b_1.length : Int) then
  some false
 else
  Option.bind (loopM (fun (s3 : (Int)) => (bif decide (s3 < (a_0.length : Int)) then
  (gidx a_0 s3).bind fun x6 =>
  (gidx b_1 s3).bind fun x13 =>
  (bif !(([x6.1, x6.2] : List Int) == ([x13.1, x13.2] : List Int)) then
  some (.inr (.inr false))
 else
  some (.inl (w64 (s3 + 1))))
 else
  some (.inr (.inl ())))) 0) (selim (fun t22 => some true)
   (fun t24 => some t24)))

noncomputable def M.spec_validQuery (list_0 : List (Int × (List Int) × Int)) (kind_1 : Int) (at_2 : List Int) : Option Bool :=
  (M.spec_validStore list_0).bind fun r1 =>
  (bif r1 then
  (M.spec_validKind kind_1).bind fun r6 =>
  (bif r6 then
  (M.spec_isVector at_2).bind fun r11 =>
  some r11
 else
  some false)
 else
  some false)

noncomputable def M.spec_nearer (a_0 : Int × Int) (b_1 : Int × Int) : Option Bool :=
  (bif decide (a_0.2 < b_1.2) then
  some true
 else
  (bif a_0.2 == b_1.2 then
  some (decide (a_0.1 < b_1.1))
 else
  some false))

noncomputable def M.spec_addHit (list_0 : List (Int × Int)) (h_1 : Int × Int) (k_2 : Int) : Option ((List (Int × Int))) :=
  (gapp ([] : List (Int × Int)) list_0).bind fun xs4 =>
  (gapp xs4 ([(h_1.1, h_1.2)] : List (Int × Int))).bind fun xs11 =>
  Option.bind (loopM (fun (s17 : (List (Int × Int)) × (Int)) => Option.bind ((bif decide (0 < s17.2) then
  (gidx s17.1 s17.2).bind fun x22 =>
  (gidx s17.1 (w64 (s17.2 - 1))).bind fun x29 =>
  (M.spec_nearer (x22.1, x22.2) (x29.1, x29.2)).bind fun r37 =>
  some r37
 else
  some false)) fun o20 =>
  (bif o20 then
  (gidx s17.1 s17.2).bind fun x44 =>
  (gidx s17.1 (w64 (s17.2 - 1))).bind fun x54 =>
  (gidx s17.1 s17.2).bind fun x61 =>
  (gidx (s17.1.set s17.2.toNat (x54.1, x54.2)) (w64 (s17.2 - 1))).bind fun x68 =>
  some (.inl (((s17.1.set s17.2.toNat (x54.1, x54.2)).set (w64 (s17.2 - 1)).toNat (x44.1, x44.2)), w64 (s17.2 - 1)))
 else
  some (.inr s17.1))) (xs11, w64 ((xs11.length : Int) - 1))) fun o16 =>
  (gslice o16 0 (min k_2 (o16.length : Int))).bind fun xs76 =>
  some xs76

noncomputable def M.spec_nearest (list_0 : List (Int × (List Int) × Int)) (kind_1 : Int) (at_2 : List Int) (k_3 : Int) : Option ((List (Int × Int))) :=
  Option.bind (loopM (fun (s4 : (List (Int × Int)) × (Int)) => (bif decide (s4.2 < (list_0.length : Int)) then
  (gidx list_0 s4.2).bind fun x9 =>
  (gidx list_0 s4.2).bind fun x15 =>
  (M.spec_dist kind_1 x15.2.1 at_2).bind fun r25 =>
  (M.spec_addHit s4.1 (x9.1, r25) k_3).bind fun r31 =>
  some (.inl (r31, w64 (s4.2 + 1)))
 else
  some (.inr s4.1))) (([] : List (Int × Int)), 0)) fun o3 =>
  some o3

noncomputable def M.spec_Nearest (list_0 : List (Int × (List Int) × Int)) (kind_1 : Int) (at_2 : List Int) (k_3 : Int) : Option ((List (Int × Int))) :=
  Option.bind ((M.spec_validQuery list_0 kind_1 at_2).bind fun r2 =>
  (bif !r2 then
  some true
 else
  (M.spec_inRange k_3 1 16).bind fun r7 =>
  some (!r7))) fun o1 =>
  (bif o1 then
  some []
 else
  (M.spec_nearest list_0 kind_1 at_2 k_3).bind fun r13 =>
  some r13)

noncomputable def M.spec_DrawWithinDist (code_0 : List UInt8) : Option ((List (Int × (List Int) × Int)) × Int × (List Int) × Int) :=
  (M.spec_newReader code_0).bind fun r1 =>
  (M.spec_DrawNearest code_0).bind fun r8 =>
  (M.spec_reader_one (r1.1, r1.2) ([0, 3, 20, 100, 500, 10000, -1] : List Int)).bind fun r20 =>
  some (r8.1, r8.2.1, r8.2.2.1, r20.1)

noncomputable def M.spec_WithinDist (list_0 : List (Int × (List Int) × Int)) (kind_1 : Int) (at_2 : List Int) (most_3 : Int) : Option ((List (Int × Int))) :=
  Option.bind ((M.spec_validQuery list_0 kind_1 at_2).bind fun r4 =>
  (bif !r4 then
  some true
 else
  some (decide (most_3 < 0)))) fun o3 =>
  (bif o3 then
  some []
 else
  (M.spec_nearest list_0 kind_1 at_2 16).bind fun r11 =>
  Option.bind (loopM (fun (s18 : (List (Int × Int)) × (Int)) => (bif decide (s18.2 < (r11.length : Int)) then
  Option.bind ((gidx r11 s18.2).bind fun x24 =>
  (bif decide (x24.2 ≤ most_3) then
  (gidx r11 s18.2).bind fun x31 =>
  (gapp s18.1 ([(x31.1, x31.2)] : List (Int × Int))).bind fun xs40 =>
  some xs40
 else
  some s18.1)) fun o23 =>
  some (.inl (o23, w64 (s18.2 + 1)))
 else
  some (.inr s18.1))) (([] : List (Int × Int)), 0)) fun o17 =>
  some o17)

noncomputable def M.spec_DrawInBox (code_0 : List UInt8) : Option ((List (Int × (List Int) × Int)) × (List Int) × (List Int)) :=
  (M.spec_newReader code_0).bind fun r1 =>
  (M.spec_anyStore (r1.1, r1.2)).bind fun r8 =>
  (M.spec_anyVector (r8.2.1, r8.2.2)).bind fun r16 =>
  (M.spec_anyVector (r16.2.1, r16.2.2)).bind fun r24 =>
  Option.bind (loopM (fun (s33 : ((List UInt8) × (Int)) × (List Int) × (List Int) × (Int)) => Option.bind ((bif decide (s33.2.2.2 < (s33.2.1.length : Int)) then
  (bif decide (s33.2.2.2 < (s33.2.2.1.length : Int)) then
  (M.spec_reader_pick (s33.1.1, s33.1.2) 5).bind fun r42 =>
  some ((r42.2.1, r42.2.2), decide (0 < r42.1))
 else
  some ((s33.1.1, s33.1.2), false))
 else
  some ((s33.1.1, s33.1.2), false))) fun o39 =>
  (bif o39.2 then
  Option.bind ((gidx s33.2.1 s33.2.2.2).bind fun x53 =>
  (gidx s33.2.2.1 s33.2.2.2).bind fun x59 =>
  (bif decide (x59 < x53) then
  (gidx s33.2.1 s33.2.2.2).bind fun x67 =>
  (gidx s33.2.2.1 s33.2.2.2).bind fun x73 =>
  (gidx s33.2.1 s33.2.2.2).bind fun x79 =>
  (gidx s33.2.2.1 s33.2.2.2).bind fun x85 =>
  some ((s33.2.1.set s33.2.2.2.toNat x73), (s33.2.2.1.set s33.2.2.2.toNat x67))
 else
  some (s33.2.1, s33.2.2.1))) fun o52 =>
  some (.inl ((o39.1.1, o39.1.2), o52.1, o52.2, w64 (s33.2.2.2 + 1)))
 else
  some (.inr (s33.2.1, s33.2.2.1)))) ((r24.2.1, r24.2.2), r16.1, r24.1, 0)) fun o32 =>
  some (r8.1, o32.1, o32.2)

noncomputable def M.spec_InBox (list_0 : List (Int × (List Int) × Int)) (low_1 : List Int) (high_2 : List Int) : Option ((List Int)) :=
  Option.bind ((M.spec_validStore list_0).bind fun r4 =>
  (bif !r4 then
  some true
 else
  (M.spec_isVector low_1).bind fun r9 =>
  (bif !r9 then
  some true
 else
  (M.spec_isVector high_2).bind fun r14 =>
  some (!r14)))) fun o3 =>
  (bif o3 then
  some []
 else
  Option.bind (loopM (fun (s21 : (List Int) × (Int)) => (bif decide (s21.2 < (list_0.length : Int)) then
  Option.bind (Option.bind (loopM (fun (s28 : (Bool) × (Int)) => (bif decide (s28.2 < 4) then
  Option.bind ((bif s28.1 then
  (gidx list_0 s21.2).bind fun x33 =>
  (gidx x33.2.1 s28.2).bind fun x43 =>
  (gidx low_1 s28.2).bind fun x49 =>
  (gidx high_2 s28.2).bind fun x55 =>
  (M.spec_inRange x43 x49 x55).bind fun r62 =>
  some r62
 else
  some false)) fun o31 =>
  some (.inl (o31, w64 (s28.2 + 1)))
 else
  some (.inr s28.1))) (true, 0)) fun o27 =>
  (bif o27 then
  (gidx list_0 s21.2).bind fun x70 =>
  (gapp s21.1 ([x70.1] : List Int)).bind fun xs78 =>
  some xs78
 else
  some s21.1)) fun o26 =>
  some (.inl (o26, w64 (s21.2 + 1)))
 else
  some (.inr s21.1))) (([] : List Int), 0)) fun o20 =>
  some o20)

noncomputable def M.laws_isIn (list_0 : List Int) (n_1 : Int) : Option Bool :=
  Option.bind (loopM (fun (s2 : (Int)) => (bif decide (s2 < (list_0.length : Int)) then
  (gidx list_0 s2).bind fun x5 =>
  (bif x5 == n_1 then
  some (.inr (.inr true))
 else
  some (.inl (w64 (s2 + 1))))
 else
  some (.inr (.inl ())))) 0) (selim (fun t12 => some false)
   (fun t14 => some t14))

noncomputable def M.laws_FnInBox (code_0 : List UInt8) : Option Bool :=
  (bif decide (1048576 < (code_0.length : Int)) then
  some true
 else
  (M.spec_DrawInBox code_0).bind fun r2 =>
  (M.impl_InBox r2.1 r2.2.1 r2.2.2).bind fun r12 =>
  Option.bind ((M.spec_InBox r2.1 r2.2.1 r2.2.2).bind fun r19 =>
  (M.laws_equalInts r12 r19).bind fun r27 =>
  (bif !r27 then
  some true
 else
  some ((r12.length : Int) == 0))) fun o18 =>
  (bif o18 then
  (M.spec_InBox r2.1 r2.2.1 r2.2.2).bind fun r40 =>
  (M.laws_equalInts r12 r40).bind fun r50 =>
  some r50
 else
  Option.bind (loopM (fun (s55 : (Int)) => (bif decide (s55 < (r2.1.length : Int)) then
  Option.bind (loopM (fun (s59 : (Bool) × (Int)) => (bif decide (s59.2 < 4) then
  Option.bind ((bif s59.1 then
  (gidx r2.2.1 s59.2).bind fun x64 =>
  (gidx r2.1 s55).bind fun x70 =>
  (gidx x70.2.1 s59.2).bind fun x80 =>
  (bif decide (x64 ≤ x80) then
  (gidx r2.1 s55).bind fun x87 =>
  (gidx x87.2.1 s59.2).bind fun x97 =>
  (gidx r2.2.2 s59.2).bind fun x103 =>
  some (decide (x97 ≤ x103))
 else
  some false)
 else
  some false)) fun o62 =>
  some (.inl (o62, w64 (s59.2 + 1)))
 else
  some (.inr s59.1))) (true, 0)) fun o58 =>
  (gidx r2.1 s55).bind fun x114 =>
  (M.laws_isIn r12 x114.1).bind fun r120 =>
  (bif r120 != o58 then
  some (.inr (.inr false))
 else
  some (.inl (w64 (s55 + 1))))
 else
  some (.inr (.inl ())))) 0) (selim (fun t125 => some (decide ((r12.length : Int) ≤ (r2.1.length : Int))))
   (fun t127 => some t127))))

noncomputable def M.spec_DrawClosestPair (code_0 : List UInt8) : Option ((List (Int × (List Int) × Int)) × Int) :=
  (M.spec_newReader code_0).bind fun r1 =>
  (M.spec_anyStore (r1.1, r1.2)).bind fun r8 =>
  (M.spec_anyKind (r8.2.1, r8.2.2)).bind fun r16 =>
  some (r8.1, r16.1)

noncomputable def M.impl_ClosestPair (list_0 : List (Int × (List Int) × Int)) (kind_1 : Int) : Option (Int × Int × Bool) :=
  Option.bind ((M.impl_ValidStore list_0).bind fun r2 =>
  (bif !r2 then
  some true
 else
  (M.impl_validKind kind_1).bind fun r7 =>
  (bif !r7 then
  some true
 else
  some (decide ((list_0.length : Int) < 2))))) fun o1 =>
  (bif o1 then
  some (0, 0, false)
 else
  Option.bind (loopM (fun (s15 : (Int) × (Int) × (Int) × (Int)) => (bif decide (s15.2.2.2 < (list_0.length : Int)) then
  (gidx list_0 s15.2.2.2).bind fun x18 =>
  (gslice list_0 (w64 (s15.2.2.2 + 1)) (list_0.length : Int)).bind fun xs31 =>
  Option.bind (loopM (fun (s38 : (Int) × (Int) × (Int) × (Int)) => (bif decide (s38.2.2.2 < (xs31.length : Int)) then
  Option.bind ((gidx xs31 s38.2.2.2).bind fun x42 =>
  (M.impl_Distance kind_1 x18.2.1 x42.2.1).bind fun r57 =>
  (bif decide (r57 < s38.2.2.1) then
  some (x18.1, x42.1, r57)
 else
  some (s38.1, s38.2.1, s38.2.2.1))) fun o41 =>
  some (.inl (o41.1, o41.2.1, o41.2.2, w64 (s38.2.2.2 + 1)))
 else
  some (.inr (s38.1, s38.2.1, s38.2.2.1)))) (s15.1, s15.2.1, s15.2.2.1, 0)) fun o37 =>
  some (.inl (o37.1, o37.2.1, o37.2.2, w64 (s15.2.2.2 + 1)))
 else
  some (.inr (s15.1, s15.2.1)))) (0, 0, 1000000, 0)) fun o14 =>
  some (o14.1, o14.2, true))

noncomputable def M.spec_ClosestPair (list_0 : List (Int × (List Int) × Int)) (kind_1 : Int) : Option (Int × Int × Bool) :=
  Option.bind ((M.spec_validStore list_0).bind fun r2 =>
  (bif !r2 then
  some true
 else
  (M.spec_validKind kind_1).bind fun r7 =>
  (bif !r7 then
  some true
 else
  some (decide ((list_0.length : Int) < 2))))) fun o1 =>
  (bif o1 then
  some (0, 0, false)
 else
  Option.bind (loopM (fun (s15 : (Int) × (Int) × (Int)) => (bif decide (s15.2.2 < (list_0.length : Int)) then
  Option.bind (loopM (fun (s19 : (Int) × (Int) × (Int)) => (bif decide (s19.2.2 < (list_0.length : Int)) then
  Option.bind ((gidx list_0 s15.2.2).bind fun x23 =>
  (gidx list_0 s19.2.2).bind fun x33 =>
  (M.spec_dist kind_1 x23.2.1 x33.2.1).bind fun r43 =>
  (gidx list_0 s19.1).bind fun x46 =>
  (gidx list_0 s19.2.1).bind fun x56 =>
  (M.spec_dist kind_1 x46.2.1 x56.2.1).bind fun r67 =>
  (bif decide (r43 < r67) then
  some (s15.2.2, s19.2.2)
 else
  some (s19.1, s19.2.1))) fun o22 =>
  some (.inl (o22.1, o22.2, w64 (s19.2.2 + 1)))
 else
  some (.inr (s19.1, s19.2.1)))) (s15.1, s15.2.1, w64 (s15.2.2 + 1))) fun o18 =>
  some (.inl (o18.1, o18.2, w64 (s15.2.2 + 1)))
 else
  some (.inr (s15.1, s15.2.1)))) (0, 1, 0)) fun o14 =>
  (gidx list_0 o14.1).bind fun x75 =>
  (gidx list_0 o14.2).bind fun x81 =>
  some (x75.1, x81.1, true))

noncomputable def M.laws_itemOf (list_0 : List (Int × (List Int) × Int)) (key_1 : Int) : Option ((Int × (List Int) × Int)) :=
  Option.bind (loopM (fun (s4 : ((Int) × (List Int) × (Int)) × (Int)) => (bif decide (s4.2 < (list_0.length : Int)) then
  (gidx list_0 s4.2).bind fun x9 =>
  (bif x9.1 == key_1 then
  (gidx list_0 s4.2).bind fun x16 =>
  some (.inr (.inr (x16.1, x16.2.1, x16.2.2)))
 else
  some (.inl ((s4.1.1, s4.1.2.1, s4.1.2.2), w64 (s4.2 + 1))))
 else
  some (.inr (.inl (s4.1.1, s4.1.2.1, s4.1.2.2))))) ((0, [], 0), 0)) (selim (fun t27 => some (0, [], 0))
   (fun t32 => some (t32.1, t32.2.1, t32.2.2)))

noncomputable def M.laws_FnClosestPair (code_0 : List UInt8) : Option Bool :=
  (bif decide (1048576 < (code_0.length : Int)) then
  some true
 else
  (M.spec_DrawClosestPair code_0).bind fun r2 =>
  (M.impl_ClosestPair r2.1 r2.2).bind fun r8 =>
  (M.spec_ClosestPair r2.1 r2.2).bind fun r12 =>
  Option.bind ((bif r8.1 != r12.1 then
  some true
 else
  (bif r8.2.1 != r12.2.1 then
  some true
 else
  (bif r8.2.2 != r12.2.2 then
  some true
 else
  some (!r8.2.2))))) fun o16 =>
  (bif o16 then
  (bif r8.1 == r12.1 then
  (bif r8.2.1 == r12.2.1 then
  some (r8.2.2 == r12.2.2)
 else
  some false)
 else
  some false)
 else
  (M.laws_itemOf r2.1 r8.1).bind fun r26 =>
  (M.laws_itemOf r2.1 r8.2.1).bind fun r32 =>
  (M.impl_Distance r2.2 r26.2.1 r32.2.1).bind fun r38 =>
  Option.bind (loopM (fun (s43 : (Int)) => (bif decide (s43 < (r2.1.length : Int)) then
  Option.bind (loopM (fun (s47 : (Int)) => (bif decide (s47 < (r2.1.length : Int)) then
  (gidx r2.1 s43).bind fun x50 =>
  (gidx r2.1 s47).bind fun x60 =>
  (M.impl_Distance r2.2 x50.2.1 x60.2.1).bind fun r70 =>
  (bif decide (r70 < r38) then
  some (.inr (.inr false))
 else
  some (.inl (w64 (s47 + 1))))
 else
  some (.inr (.inl ())))) (w64 (s43 + 1))) (selim (fun t75 => some (.inl (w64 (s43 + 1))))
   (fun t77 => some (.inr (.inr t77))))
 else
  some (.inr (.inl ())))) 0) (selim (fun t79 => (bif decide (r8.1 < r8.2.1) then
  some (decide (0 ≤ r38))
 else
  some false))
   (fun t82 => some t82))))

noncomputable def M.laws_keys (list_0 : List (Int × Int)) : Option ((List Int)) :=
  Option.bind (loopM (fun (s4 : (List Int) × (Int)) => (bif decide (s4.2 < (list_0.length : Int)) then
  (gidx list_0 s4.2).bind fun x9 =>
  (gapp s4.1 ([x9.1] : List Int)).bind fun xs17 =>
  some (.inl (xs17, w64 (s4.2 + 1)))
 else
  some (.inr s4.1))) (([] : List Int), 0)) fun o3 =>
  some o3

end Go.Vs
