/- What the functions compute. -/
import Derived.Test.YtgokepoinohioacExactPutItemEng1
import Derived.Test.YtgokepoinohioacExactPutItemEng2
set_option linter.unusedVariables false
set_option linter.unusedSimpArgs false
namespace Go.Vs

noncomputable def M.spec_copyInts (list_0 : List Int) : Option ((List Int)) :=
  (gapp ([] : List Int) list_0).bind fun xs6 =>
  some xs6

noncomputable def M.impl_validCoords (coords_0 : List Int) : Option Bool :=
  Option.bind (loopM (fun (s2 : (Int)) => (bif decide (s2 < (coords_0.length : Int)) then
  (gidx coords_0 s2).bind fun x5 =>
  Option.bind ((bif decide (x5 < (-100)) then
  some true
 else
  some (decide (100 < x5)))) fun o11 =>
  (bif o11 then
  some (.inr (.inr false))
 else
  some (.inl (w64 (s2 + 1))))
 else
  some (.inr (.inl ())))) 0) (selim (fun t15 => some true)
   (fun t17 => some t17))

noncomputable def M.impl_ValidVector (v_0 : List Int) : Option Bool :=
  (bif (v_0.length : Int) == 4 then
  (M.impl_validCoords v_0).bind fun r2 =>
  some r2
 else
  some false)

noncomputable def M.spec_inRange (n_0 : Int) (low_1 : Int) (high_2 : Int) : Option Bool :=
  (bif decide (low_1 ≤ n_0) then
  some (decide (n_0 ≤ high_2))
 else
  some false)

noncomputable def M.spec_allIn (list_0 : List Int) (low_1 : Int) (high_2 : Int) : Option Bool :=
  Option.bind (loopM (fun (s2 : (Int)) => (bif decide (s2 < (list_0.length : Int)) then
  (gidx list_0 s2).bind fun x7 =>
  (M.spec_inRange x7 low_1 high_2).bind fun r12 =>
  (bif !r12 then
  some (.inr (.inr false))
 else
  some (.inl (w64 (s2 + 1))))
 else
  some (.inr (.inl ())))) 0) (selim (fun t17 => some true)
   (fun t19 => some t19))

noncomputable def M.spec_isVector (v_0 : List Int) : Option Bool :=
  (bif (v_0.length : Int) == 4 then
  (M.spec_allIn v_0 (-100) 100).bind fun r2 =>
  some r2
 else
  some false)

noncomputable def M.laws_equalInts (a_0 : List Int) (b_1 : List Int) : Option Bool :=
  (bif (a_0.length : Int) != (b_1.length : Int) then
  some false
 else
  Option.bind (loopM (fun (s3 : (Int)) => (bif decide (s3 < (a_0.length : Int)) then
  (gidx a_0 s3).bind fun x9 =>
  (gidx b_1 s3).bind fun x14 =>
  (bif x9 != x14 then
  some (.inr (.inr false))
 else
  some (.inl (w64 (s3 + 1))))
 else
  some (.inr (.inl ())))) 0) (selim (fun t21 => some true)
   (fun t23 => some t23)))

noncomputable def M.spec_validItem (x_0 : Int × (List Int) × Int) : Option Bool :=
  (M.spec_inRange x_0.1 1 99).bind fun r7 =>
  (bif r7 then
  (M.spec_isVector x_0.2.1).bind fun r13 =>
  (bif r13 then
  (M.spec_inRange x_0.2.2 0 15).bind fun r19 =>
  some r19
 else
  some false)
 else
  some false)

noncomputable def M.spec_validStore (list_0 : List (Int × (List Int) × Int)) : Option Bool :=
  Option.bind (loopM (fun (s2 : (Int)) => (bif decide (s2 < (list_0.length : Int)) then
  Option.bind ((gidx list_0 s2).bind fun x8 =>
  (M.spec_validItem (x8.1, x8.2.1, x8.2.2)).bind fun r19 =>
  (bif !r19 then
  some true
 else
  (bif decide (0 < s2) then
  (gidx list_0 s2).bind fun x24 =>
  (gidx list_0 (w64 (s2 - 1))).bind fun x29 =>
  some (decide (x24.1 ≤ x29.1))
 else
  some false))) fun o7 =>
  (bif o7 then
  some (.inr (.inr false))
 else
  some (.inl (w64 (s2 + 1))))
 else
  some (.inr (.inl ())))) 0) (selim (fun t39 => some (decide ((list_0.length : Int) ≤ 16)))
   (fun t42 => some t42))

noncomputable def M.spec_copyItem (x_0 : Int × (List Int) × Int) : Option ((Int × (List Int) × Int)) :=
  (M.spec_copyInts x_0.2.1).bind fun r14 =>
  some (x_0.1, r14, x_0.2.2)

noncomputable def M.spec_put (list_0 : List (Int × (List Int) × Int)) (x_1 : Int × (List Int) × Int) : Option ((List (Int × (List Int) × Int))) :=
  Option.bind (loopM (fun (s14 : (List (Int × (List Int) × Int)) × (Int)) => (bif decide (s14.2 < (list_0.length : Int)) then
  Option.bind ((gidx list_0 s14.2).bind fun x26 =>
  (bif decide (x26.1 < x_1.1) then
  (gidx list_0 s14.2).bind fun x33 =>
  (M.spec_copyItem (x33.1, x33.2.1, x33.2.2)).bind fun r44 =>
  (gapp s14.1 ([(r44.1, r44.2.1, r44.2.2)] : List (Int × (List Int) × Int))).bind fun xs60 =>
  some xs60
 else
  some s14.1)) fun o25 =>
  some (.inl (o25, w64 (s14.2 + 1)))
 else
  some (.inr s14.1))) (([] : List (Int × (List Int) × Int)), 0)) fun o13 =>
  (M.spec_copyItem (x_1.1, x_1.2.1, x_1.2.2)).bind fun r87 =>
  (gapp o13 ([(r87.1, r87.2.1, r87.2.2)] : List (Int × (List Int) × Int))).bind fun xs103 =>
  Option.bind (loopM (fun (s115 : (List (Int × (List Int) × Int)) × (Int)) => (bif decide (s115.2 < (list_0.length : Int)) then
  Option.bind ((gidx list_0 s115.2).bind fun x127 =>
  (bif decide (x_1.1 < x127.1) then
  (gidx list_0 s115.2).bind fun x134 =>
  (M.spec_copyItem (x134.1, x134.2.1, x134.2.2)).bind fun r145 =>
  (gapp s115.1 ([(r145.1, r145.2.1, r145.2.2)] : List (Int × (List Int) × Int))).bind fun xs161 =>
  some xs161
 else
  some s115.1)) fun o126 =>
  some (.inl (o126, w64 (s115.2 + 1)))
 else
  some (.inr s115.1))) (xs103, 0)) fun o114 =>
  some o114

noncomputable def M.spec_PutItem (list_0 : List (Int × (List Int) × Int)) (x_1 : Int × (List Int) × Int) : Option ((List (Int × (List Int) × Int)) × Bool) :=
  Option.bind ((M.spec_validStore list_0).bind fun r8 =>
  (bif !r8 then
  some true
 else
  (M.spec_validItem (x_1.1, x_1.2.1, x_1.2.2)).bind fun r14 =>
  some (!r14))) fun o7 =>
  (bif o7 then
  some ([], false)
 else
  (M.spec_put list_0 (x_1.1, x_1.2.1, x_1.2.2)).bind fun r24 =>
  (M.spec_validStore r24).bind fun r35 =>
  (bif !r35 then
  some ([], false)
 else
  some (r24, true)))

noncomputable def M.impl_validKey (key_0 : Int) : Option Bool :=
  (bif decide (1 ≤ key_0) then
  some (decide (key_0 ≤ 99))
 else
  some false)

noncomputable def M.impl_validTags (tags_0 : Int) : Option Bool :=
  (bif decide (0 ≤ tags_0) then
  some (decide (tags_0 ≤ 15))
 else
  some false)

noncomputable def M.impl_validItem (x_0 : Int × (List Int) × Int) : Option Bool :=
  (M.impl_validKey x_0.1).bind fun r4 =>
  (bif r4 then
  (M.impl_ValidVector x_0.2.1).bind fun r10 =>
  (bif r10 then
  (M.impl_validTags x_0.2.2).bind fun r16 =>
  some r16
 else
  some false)
 else
  some false)

noncomputable def M.impl_ValidStore (list_0 : List (Int × (List Int) × Int)) : Option Bool :=
  (bif decide (16 < (list_0.length : Int)) then
  some false
 else
  Option.bind (loopM (fun (s3 : (Int) × (Int)) => (bif decide (s3.2 < (list_0.length : Int)) then
  (gidx list_0 s3.2).bind fun x8 =>
  Option.bind ((M.impl_validItem (x8.1, x8.2.1, x8.2.2)).bind fun r30 =>
  (bif !r30 then
  some true
 else
  some (decide (x8.1 ≤ s3.1)))) fun o29 =>
  (bif o29 then
  some (.inr (.inr false))
 else
  some (.inl (x8.1, w64 (s3.2 + 1))))
 else
  some (.inr (.inl ())))) (0, 0)) (selim (fun t41 => some true)
   (fun t43 => some t43)))

noncomputable def M.cmp_isNaN_int (x_0 : Int) : Option Bool :=
  some (x_0 != x_0)

noncomputable def M.cmp_Compare_int (x_0 : Int) (y_1 : Int) : Option Int :=
  (M.cmp_isNaN_int x_0).bind fun r1 =>
  (M.cmp_isNaN_int y_1).bind fun r5 =>
  (bif r1 then
  (bif r5 then
  some 0
 else
  some (-1))
 else
  (bif r5 then
  some 1
 else
  (bif decide (x_0 < y_1) then
  some (-1)
 else
  (bif decide (y_1 < x_0) then
  some 1
 else
  some 0))))

noncomputable def M.impl_placeOf_1 (x_0 : Int × (List Int) × Int) (key_1 : Int) : Option Int :=
  (M.cmp_Compare_int x_0.1 key_1).bind fun r7 =>
  some r7

end Go.Vs

namespace Go.Vs

end Go.Vs

namespace Go.Vs

noncomputable def M.laws_toIntS (a_0 : List Int) : Option ((List Int)) :=
  (gmake (a_0.length : Int) (0 : Int)).bind fun xs1 =>
  Option.bind (loopM (fun (s10 : (List Int) × (Int)) => (bif decide (s10.2 < (a_0.length : Int)) then
  (gidx a_0 s10.2).bind fun x18 =>
  (gidx s10.1 s10.2).bind fun x23 =>
  some (.inl ((s10.1.set s10.2.toNat x18), w64 (s10.2 + 1)))
 else
  some (.inr s10.1))) (xs1, 0)) fun o9 =>
  some o9

noncomputable def M.laws_eqIntS (a_0 : List Int) (b_1 : List Int) : Option Bool :=
  (bif (a_0.length : Int) != (b_1.length : Int) then
  some false
 else
  Option.bind (loopM (fun (s3 : (Int)) => (bif decide (s3 < (a_0.length : Int)) then
  (gidx a_0 s3).bind fun x9 =>
  (gidx b_1 s3).bind fun x14 =>
  (bif x9 != x14 then
  some (.inr (.inr false))
 else
  some (.inl (w64 (s3 + 1))))
 else
  some (.inr (.inl ())))) 0) (selim (fun t21 => some true)
   (fun t23 => some t23)))

noncomputable def M.laws_szIntS (a_0 : List Int) (left_1 : Int) : Option Int :=
  (bif decide ((w64 (left_1 - (a_0.length : Int))) < 0) then
  some (-1)
 else
  some (w64 (left_1 - (a_0.length : Int))))

noncomputable def M.laws_heldIntS (a_0 : List Int) (k_1 : Int) : Option Int :=
  Option.bind (loopM (fun (s2 : (Int) × (Int)) => (bif decide (s2.2 < (a_0.length : Int)) then
  (gidx a_0 s2.2).bind fun x7 =>
  (bif x7 != s2.1 then
  some (.inr (.inr (-1)))
 else
  some (.inl (w64 (s2.1 + 1), w64 (s2.2 + 1))))
 else
  some (.inr (.inl s2.1)))) (k_1, 0)) (selim (fun t13 => some t13)
   (fun t15 => some t15))

noncomputable def M.laws_szItem (a_0 : Int × (List Int) × Int) (left_1 : Int) : Option Int :=
  (M.laws_szIntS a_0.2.1 left_1).bind fun r7 =>
  (bif decide (r7 < 0) then
  some (-1)
 else
  some r7)

noncomputable def M.laws_szItemS (a_0 : List (Int × (List Int) × Int)) (left_1 : Int) : Option Int :=
  (bif decide ((w64 (left_1 - (a_0.length : Int))) < 0) then
  some (-1)
 else
  Option.bind (loopM (fun (s3 : (Int) × (Int)) => (bif decide (s3.2 < (a_0.length : Int)) then
  (gidx a_0 s3.2).bind fun x8 =>
  (M.laws_szItem (x8.1, x8.2.1, x8.2.2) s3.1).bind fun r19 =>
  (bif decide (r19 < 0) then
  some (.inr (.inr (-1)))
 else
  some (.inl (r19, w64 (s3.2 + 1))))
 else
  some (.inr (.inl s3.1)))) (w64 (left_1 - (a_0.length : Int)), 0)) (selim (fun t24 => some t24)
   (fun t26 => some t26)))

noncomputable def M.laws_toItem (a_0 : Int × (List Int) × Int) : Option ((Int × (List Int) × Int)) :=
  (M.laws_toIntS a_0.2.1).bind fun r26 =>
  some (a_0.1, r26, a_0.2.2)

noncomputable def M.laws_eqItem (a_0 : Int × (List Int) × Int) (b_1 : Int × (List Int) × Int) : Option Bool :=
  (bif a_0.1 != b_1.1 then
  some false
 else
  (M.laws_eqIntS a_0.2.1 b_1.2.1).bind fun r15 =>
  (bif !r15 then
  some false
 else
  (bif a_0.2.2 != b_1.2.2 then
  some false
 else
  some true)))

noncomputable def M.laws_eqItemS (a_0 : List (Int × (List Int) × Int)) (b_1 : List (Int × (List Int) × Int)) : Option Bool :=
  (bif (a_0.length : Int) != (b_1.length : Int) then
  some false
 else
  Option.bind (loopM (fun (s3 : (Int)) => (bif decide (s3 < (a_0.length : Int)) then
  (gidx a_0 s3).bind fun x9 =>
  (gidx b_1 s3).bind fun x20 =>
  (M.laws_eqItem (x9.1, x9.2.1, x9.2.2) (x20.1, x20.2.1, x20.2.2)).bind fun r32 =>
  (bif !r32 then
  some (.inr (.inr false))
 else
  some (.inl (w64 (s3 + 1))))
 else
  some (.inr (.inl ())))) 0) (selim (fun t37 => some true)
   (fun t39 => some t39)))

noncomputable def M.laws_heldItemS (a_0 : List (Int × (List Int) × Int)) (k_1 : Int) : Option Int :=
  Option.bind (loopM (fun (s2 : (Int) × (Int)) => (bif decide (s2.2 < (a_0.length : Int)) then
  (gidx a_0 s2.2).bind fun x7 =>
  (bif x7.1 != s2.1 then
  some (.inr (.inr (-1)))
 else
  (gidx a_0 s2.2).bind fun x13 =>
  (M.laws_heldIntS x13.2.1 (w64 (s2.1 + 1))).bind fun r23 =>
  (bif decide (r23 < 0) then
  some (.inr (.inr (-1)))
 else
  (gidx a_0 s2.2).bind fun x28 =>
  (bif x28.2.2 != r23 then
  some (.inr (.inr (-1)))
 else
  some (.inl (w64 (r23 + 1), w64 (s2.2 + 1))))))
 else
  some (.inr (.inl s2.1)))) (k_1, 0)) (selim (fun t34 => some t34)
   (fun t36 => some t36))

end Go.Vs

namespace Go.Vs

end Go.Vs

namespace Go.Vs

end Go.Vs

namespace Go.Vs

noncomputable def M.slices_BinarySearchFunc_impl_Item_impl_Item_int__impl_placeOf_1 (x_0 : List (Int × (List Int) × Int)) (target_1 : Int) : Option (Int × Bool) :=
  Option.bind (loopM (fun (s2 : (Int) × (Int)) => (bif decide (s2.1 < s2.2) then
  (gidx x_0 (wk .i64 (gshr .u64 (wk .u64 (w64 (s2.1 + s2.2))) 1))).bind fun x5 =>
  (M.impl_placeOf_1 (x5.1, x5.2.1, x5.2.2) target_1).bind fun r15 =>
  (bif decide (r15 < 0) then
  some (.inl (w64 ((wk .i64 (gshr .u64 (wk .u64 (w64 (s2.1 + s2.2))) 1)) + 1), s2.2))
 else
  some (.inl (s2.1, wk .i64 (gshr .u64 (wk .u64 (w64 (s2.1 + s2.2))) 1))))
 else
  some (.inr s2.1))) (0, (x_0.length : Int))) fun o1 =>
  (bif decide (o1 < (x_0.length : Int)) then
  (gidx x_0 o1).bind fun x22 =>
  (M.impl_placeOf_1 (x22.1, x22.2.1, x22.2.2) target_1).bind fun r32 =>
  some (o1, r32 == 0)
 else
  some (o1, false))

noncomputable def M.impl_placeOf (list_0 : List (Int × (List Int) × Int)) (key_1 : Int) : Option (Int × Bool) :=
  (M.slices_BinarySearchFunc_impl_Item_impl_Item_int__impl_placeOf_1 list_0 key_1).bind fun r1 =>
  some (r1.1, r1.2)

noncomputable def M.slices_Clone_int_int (s_0 : List Int) : Option ((List Int)) :=
  (gapp ([] : List Int) s_0).bind fun xs4 =>
  some xs4

noncomputable def M.impl_copyItem (x_0 : Int × (List Int) × Int) : Option ((Int × (List Int) × Int)) :=
  (M.slices_Clone_int_int x_0.2.1).bind fun r7 =>
  some (x_0.1, r7, x_0.2.2)

noncomputable def M.impl_copyItems (list_0 : List (Int × (List Int) × Int)) : Option ((List (Int × (List Int) × Int))) :=
  (gmake (list_0.length : Int) ((0, [], 0) : Int × (List Int) × Int)).bind fun xs1 =>
  Option.bind (loopM (fun (s8 : (List (Int × (List Int) × Int)) × (Int)) => (bif decide (s8.2 < (list_0.length : Int)) then
  (gidx list_0 s8.2).bind fun x13 =>
  (M.impl_copyItem (x13.1, x13.2.1, x13.2.2)).bind fun r27 =>
  (gidx s8.1 s8.2).bind fun x33 =>
  some (.inl ((s8.1.set s8.2.toNat (r27.1, r27.2.1, r27.2.2)), w64 (s8.2 + 1)))
 else
  some (.inr s8.1))) (xs1, 0)) fun o7 =>
  some o7

end Go.Vs

namespace Go.Vs

end Go.Vs

namespace Go.Vs

noncomputable def M.laws_markIntS (a_0 : List Int) (k_1 : Int) : Option (Int × (List Int)) :=
  Option.bind (loopM (fun (s2 : (List Int) × (Int) × (Int)) => (bif decide (s2.2.2 < (s2.1.length : Int)) then
  (gidx s2.1 s2.2.2).bind fun x6 =>
  some (.inl ((s2.1.set s2.2.2.toNat s2.2.1), w64 (s2.2.1 + 1), w64 (s2.2.2 + 1)))
 else
  some (.inr (s2.1, s2.2.1)))) (a_0, k_1, 0)) fun o1 =>
  some (o1.2, o1.1)

end Go.Vs

namespace Go.Vs

noncomputable def M.slices_Reverse_impl_Item_impl_Item (s_0 : List (Int × (List Int) × Int)) : Option ((List (Int × (List Int) × Int))) :=
  Option.bind (loopM (fun (s2 : (List (Int × (List Int) × Int)) × (Int) × (Int)) => (bif decide (s2.2.1 < s2.2.2) then
  (gidx s2.1 s2.2.2).bind fun x6 =>
  (gidx s2.1 s2.2.1).bind fun x16 =>
  (gidx s2.1 s2.2.1).bind fun x26 =>
  (gidx (s2.1.set s2.2.1.toNat (x6.1, x6.2.1, x6.2.2)) s2.2.2).bind fun x35 =>
  some (.inl (((s2.1.set s2.2.1.toNat (x6.1, x6.2.1, x6.2.2)).set s2.2.2.toNat (x16.1, x16.2.1, x16.2.2)), w64 (s2.2.1 + 1), w64 (s2.2.2 - 1)))
 else
  some (.inr s2.1))) (s_0, 0, w64 ((s_0.length : Int) - 1))) fun o1 =>
  some o1

noncomputable def M.laws_markItem (a_0 : Int × (List Int) × Int) (k_1 : Int) : Option (Int × (List Int)) :=
  (M.laws_markIntS a_0.2.1 k_1).bind fun r4 =>
  some (r4.1, r4.2)

end Go.Vs

namespace Go.Vs

end Go.Vs

namespace Go.Vs

end Go.Vs

namespace Go.Vs

open Classical in
noncomputable def M.dItemS (a : List (Int × (List Int) × Int)) : Option (List (Int × (List Int) × Int)) :=
  if a.length ≤ 2147483648 ∧ ∀ x ∈ a, M.laws_toIntS x.2.1 = some x.2.1 then some a else none

theorem dItemS_some {a r : List (Int × (List Int) × Int)} (h : M.dItemS a = some r) : a.length ≤ 2147483648 ∧ (∀ x ∈ a, M.laws_toItem x = some x) ∧ r = a := by
  unfold M.dItemS at h
  split at h
  · rename_i hc
    refine ⟨hc.1, fun x hx => ?_, (Option.some.inj h).symm⟩
    unfold M.laws_toItem
    rw [hc.2 x hx]; rfl
  · cases h
theorem gmake_nat {α : Type} (n : Nat) (z : α) (h : n ≤ 2147483648) : gmake (n : Int) z = some (List.replicate n z) := by
  unfold gmake
  rw [if_pos (by omega)]; simp
end Go.Vs

namespace Go.Vs

end Go.Vs

namespace Go.Vs

end Go.Vs

namespace Go.Vs

end Go.Vs

namespace Go.Vs

end Go.Vs

namespace Go.Vs

end Go.Vs

namespace Go.Vs

noncomputable def M.dmarkItemSB : List (Int × (List Int) × Int) → Int → Option (Int × List (Int × (List Int) × Int))
  | [], k => some (k, [])
  | x :: xs, k => (M.laws_markIntS x.2.1 (w64 (k + 1))).bind fun q => (M.dmarkItemSB xs (w64 (q.1 + 1))).bind fun t => some (t.1, (k, q.2, q.1) :: t.2)

noncomputable def M.markItemB (a : List (Int × (List Int) × Int)) (k : Int) : Option (Int × List (Int × (List Int) × Int)) := if a.length ≤ 2147483648 then M.dmarkItemSB a k else none

theorem markItemB_some {a : List (Int × (List Int) × Int)} {k : Int} {r : Int × List (Int × (List Int) × Int)} (h : M.markItemB a k = some r) : a.length ≤ 2147483648 ∧ M.dmarkItemSB a k = some r := by
  unfold M.markItemB at h; split at h
  · exact ⟨by assumption, h⟩
  · cases h
theorem gidx_mid {β : Type} {A B : List β} {e : β} {i : Nat} (h : A.length = i) : gidx (A ++ e :: B) (i : Int) = some e := by
  subst h
  unfold gidx
  rw [if_pos (by omega)]
  simp
theorem set_mid {β : Type} {A B : List β} {e e' : β} {i : Nat} (h : A.length = i) : (A ++ e :: B).set i e' = A ++ e' :: B := by
  subst h
  rw [List.set_append_right _ _ (Nat.le_refl _), Nat.sub_self, List.set_cons_zero]

def gins {α : Type} (z : α) (s_0 : List α) (i_1 : Int) (v_2 : List α) : Option (List α) :=
  (gslice s_0 i_1 (s_0.length : Int)).bind fun xs1 =>
  (bif (v_2.length : Int) == 0 then
  some s_0
 else
  (bif i_1 == (s_0.length : Int) then
  (gapp s_0 v_2).bind fun xs9 =>
  some xs9
 else
  (bif decide ((s_0.length : Int) < (w64 ((s_0.length : Int) + (v_2.length : Int)))) then
  (gslice s_0 0 i_1).bind fun xs15 =>
  (gappz xs15 (w64 ((w64 ((s_0.length : Int) + (v_2.length : Int))) - i_1)) z).bind fun xs21 =>
  (gslice xs21 i_1 (xs21.length : Int)).bind fun xs26 =>
  (gslice (gcopyAt xs21 (i_1).toNat xs26.length v_2) (w64 (i_1 + (v_2.length : Int))) ((gcopyAt xs21 (i_1).toNat xs26.length v_2).length : Int)).bind fun xs33 =>
  (gslice s_0 i_1 (s_0.length : Int)).bind fun xs39 =>
  some (gcopyAt (gcopyAt xs21 (i_1).toNat xs26.length v_2) (w64 (i_1 + (v_2.length : Int))).toNat xs33.length xs39)
 else
  none)))

noncomputable def M.insItemD (s : List (Int × (List Int) × Int)) (i : Int) (x : Int × (List Int) × Int) : Option (List (Int × (List Int) × Int)) :=
  if 0 ≤ i ∧ i ≤ (s.length : Int) ∧ s.length ≤ 1000000 then some (s.take i.toNat ++ x :: s.drop i.toNat) else none

theorem insItemD_some {s r : List (Int × (List Int) × Int)} {i : Int} {x : Int × (List Int) × Int} (h : M.insItemD s i x = some r) : ∃ a : Nat, i = (a : Int) ∧ a ≤ s.length ∧ s.length ≤ 1000000 ∧ r = s.take a ++ x :: s.drop a := by
  unfold M.insItemD at h; split at h
  · rename_i hc
    exact ⟨i.toNat, by omega, by omega, hc.2.2, (Option.some.inj h).symm⟩
  · cases h
theorem gslice_nat {α : Type} {xs : List α} {l h : Nat} (h1 : l ≤ h) (h2 : h ≤ xs.length) : gslice xs (l : Int) (h : Int) = some ((xs.take h).drop l) := by
  unfold gslice; rw [if_pos (by omega)]; simp
theorem gcopyAt_midG {α : Type} {A B ys : List α} {n i : Nat} (hA : A.length = i) : gcopyAt (A ++ B) i n ys = A ++ (ys.take n ++ B.drop (min n ys.length)) := by
  subst hA
  unfold gcopyAt
  rw [List.take_left, List.drop_append, List.drop_eq_nil_of_le (by omega), Nat.add_sub_cancel_left, List.nil_append]
theorem gins_ok {α : Type} {z : α} {s : List α} {x : α} {i : Nat} (hi : i ≤ s.length) (hl : s.length ≤ 1000000) : gins z s (i : Int) [x] = some (s.take i ++ x :: s.drop i) := by
  unfold gins
  have g1 : gslice s (i : Int) (s.length : Int) = some (s.drop i) := by
    rw [gslice_nat hi (Nat.le_refl _), List.take_length]
  have e1 : ((([x] : List α).length : Int) == 0) = false := rfl
  simp only [g1, e1, cond_false, Option.bind_some]
  by_cases hc : i = s.length
  · have e2 : ((i : Int) == (s.length : Int)) = true := beq_iff_eq.2 (by omega)
    simp only [e2, cond_true]
    unfold gapp
    rw [if_pos (by simp; omega)]
    simp [hc]
  · have e2 : ((i : Int) == (s.length : Int)) = false := beq_eq_false_iff_ne.2 (by omega)
    have e3 : w64 ((s.length : Int) + (([x] : List α).length : Int)) = ((s.length + 1 : Nat) : Int) := w64_id (by simp; omega) (by simp; omega)
    have e4 : decide ((s.length : Int) < ((s.length + 1 : Nat) : Int)) = true := decide_eq_true (by omega)
    have g2 : gslice s 0 (i : Int) = some (s.take i) := by
      have := gslice_nat (xs := s) (l := 0) (h := i) (by omega) hi
      simpa using this
    have e5 : w64 (((s.length + 1 : Nat) : Int) - (i : Int)) = ((s.length + 1 - i : Nat) : Int) := by rw [w64_id (by omega) (by omega)]; omega
    have g3 : gappz (s.take i) ((s.length + 1 - i : Nat) : Int) z = some (s.take i ++ List.replicate (s.length + 1 - i) z) := by
      unfold gappz; rw [if_pos (by simp; omega)]; simp
    simp only [e2, cond_false, e3, e4, cond_true, g2, e5, g3, Option.bind_some]
    have hA : (s.take i).length = i := by rw [List.length_take]; omega
    have hL : (s.take i ++ List.replicate (s.length + 1 - i) z).length = s.length + 1 := by simp; omega
    have g4 : gslice (s.take i ++ List.replicate (s.length + 1 - i) z) (i : Int) ((s.take i ++ List.replicate (s.length + 1 - i) z).length : Int) = some (List.replicate (s.length + 1 - i) z) := by
      rw [gslice_nat (by omega) (Nat.le_refl _), List.take_length]
      rw [List.drop_append_of_le_length (by simp; omega), List.drop_eq_nil_of_le (by simp; omega), List.nil_append]
    have c1 : gcopyAt (s.take i ++ List.replicate (s.length + 1 - i) z) ((i : Int)).toNat (List.replicate (s.length + 1 - i) z).length [x] = s.take i ++ x :: List.replicate (s.length - i) z := by
      rw [Int.toNat_natCast, gcopyAt_midG hA, List.take_of_length_le (l := [x]) (by simp; omega), List.drop_replicate]
      have : s.length + 1 - i - min (List.replicate (s.length + 1 - i) z).length ([x] : List α).length = s.length - i := by
        simp only [List.length_replicate, List.length_cons, List.length_nil]; omega
      rw [this]; rfl
    have hL2 : (s.take i ++ x :: List.replicate (s.length - i) z).length = s.length + 1 := by simp; omega
    have e6 : w64 ((i : Int) + (([x] : List α).length : Int)) = ((i + 1 : Nat) : Int) := w64_id (by simp; omega) (by simp; omega)
    have g5 : gslice (s.take i ++ x :: List.replicate (s.length - i) z) ((i + 1 : Nat) : Int) ((s.take i ++ x :: List.replicate (s.length - i) z).length : Int) = some (List.replicate (s.length - i) z) := by
      rw [gslice_nat (by omega) (Nat.le_refl _), List.take_length]
      rw [List.drop_append, List.drop_eq_nil_of_le (by simp; omega)]
      have : i + 1 - (s.take i).length = 1 := by simp; omega
      rw [this]; simp
    simp only [g4, c1, e6, g5, Option.bind_some]
    congr 1
    have hA2 : (s.take i ++ [x]).length = i + 1 := by rw [List.length_append, hA]; rfl
    have := gcopyAt_midG (A := s.take i ++ [x]) (B := List.replicate (s.length - i) z) (ys := s.drop i) (n := (List.replicate (s.length - i) z).length) hA2
    rw [List.append_assoc, List.singleton_append] at this
    rw [Int.toNat_natCast, this, List.take_of_length_le (l := s.drop i) (by simp), List.drop_eq_nil_of_le (as := List.replicate (s.length - i) z) (by simp)]
    simp

noncomputable def M.impl_PutItemD (list_0 : List (Int × (List Int) × Int)) (x_1 : Int × (List Int) × Int) : Option ((List (Int × (List Int) × Int)) × Bool) :=
  Option.bind ((M.impl_ValidStore list_0).bind fun r4 =>
  (bif !r4 then
  some true
 else
  (M.impl_validItem (x_1.1, x_1.2.1, x_1.2.2)).bind fun r10 =>
  some (!r10))) fun o3 =>
  (bif o3 then
  some ([], false)
 else
  (M.impl_placeOf list_0 x_1.1).bind fun r19 =>
  (bif r19.2 then
  (M.impl_copyItems list_0).bind fun r24 =>
  (M.impl_copyItem (x_1.1, x_1.2.1, x_1.2.2)).bind fun r34 =>
  (gidx r24 r19.1).bind fun x40 =>
  some ((r24.set r19.1.toNat (r34.1, r34.2.1, r34.2.2)), true)
 else
  (bif (list_0.length : Int) == 16 then
  some ([], false)
 else
  (M.impl_copyItems list_0).bind fun r55 =>
  (M.impl_copyItem (x_1.1, x_1.2.1, x_1.2.2)).bind fun r64 =>
  (M.insItemD r55 r19.1 (r64.1, r64.2.1, r64.2.2)).bind fun r71 =>
  some (r71, true))))

noncomputable def M.laws_FnExactPutItem (aList_0 : List (Int × (List Int) × Int)) (aX_1 : Int × (List Int) × Int) : Option Bool :=
  (M.laws_szItemS aList_0 1048576).bind fun r3 =>
  (bif decide (r3 < 0) then
  some true
 else
  (M.laws_szItem (aX_1.1, aX_1.2.1, aX_1.2.2) r3).bind fun r9 =>
  (bif decide (r9 < 0) then
  some true
 else
  (M.dItemS aList_0).bind fun r14 =>
  (M.laws_toItem (aX_1.1, aX_1.2.1, aX_1.2.2)).bind fun r22 =>
  (M.spec_PutItem r14 (r22.1, r22.2.1, r22.2.2)).bind fun r28 =>
  (M.dItemS aList_0).bind fun r34 =>
  (M.laws_toItem (aX_1.1, aX_1.2.1, aX_1.2.2)).bind fun r43 =>
  (M.impl_PutItemD r34 (r43.1, r43.2.1, r43.2.2)).bind fun r54 =>
  Option.bind ((M.laws_eqItemS r54.1 r28.1).bind fun r63 =>
  (bif !r63 then
  some true
 else
  some (r54.2 != r28.2))) fun o62 =>
  (bif o62 then
  some false
 else
  (M.dItemS aList_0).bind fun r70 =>
  (M.laws_eqItemS r34 r70).bind fun r78 =>
  (bif !r78 then
  some false
 else
  (M.laws_toItem (aX_1.1, aX_1.2.1, aX_1.2.2)).bind fun r85 =>
  (M.laws_eqItem (r43.1, r43.2.1, r43.2.2) (r85.1, r85.2.1, r85.2.2)).bind fun r94 =>
  (bif !r94 then
  some false
 else
  (M.markItemB r34 1).bind fun r99 =>
  (M.laws_markItem (r43.1, r43.2.1, r43.2.2) r99.1).bind fun r105 =>
  Option.bind ((bif decide (r105.1 < 0) then
  some true
 else
  (M.laws_eqItemS r54.1 r28.1).bind fun r112 =>
  (bif !r112 then
  some true
 else
  some (r54.2 != r28.2)))) fun o110 =>
  (bif o110 then
  some false
 else
  (M.markItemB r54.1 1).bind fun r119 =>
  (M.laws_heldItemS r119.2 1).bind fun r124 =>
  (bif decide (r124 < 0) then
  some false
 else
  (bif r124 != r119.1 then
  some false
 else
  (M.dItemS aList_0).bind fun r130 =>
  (M.laws_toItem (aX_1.1, aX_1.2.1, aX_1.2.2)).bind fun r138 =>
  (M.impl_PutItemD r130 (r138.1, r138.2.1, r138.2.2)).bind fun r144 =>
  Option.bind ((M.laws_eqItemS r144.1 r28.1).bind fun r155 =>
  (bif !r155 then
  some true
 else
  some (r144.2 != r28.2))) fun o152 =>
  (bif o152 then
  some false
 else
  (M.laws_heldItemS r119.2 1).bind fun r162 =>
  (bif decide (r162 < 0) then
  some false
 else
  (bif r162 != r119.1 then
  some false
 else
  some true)))))))))))

end Go.Vs

namespace Go.Vs

end Go.Vs

namespace Go.Vs

end Go.Vs

namespace Go.Vs

end Go.Vs

namespace Go.Vs

end Go.Vs

namespace Go.Vs

end Go.Vs

namespace Go.Vs

end Go.Vs

namespace Go.Vs

end Go.Vs

namespace Go.Vs

end Go.Vs

namespace Go.Vs

end Go.Vs

namespace Go.Vs

end Go.Vs

namespace Go.Vs

end Go.Vs

namespace Go.Vs

end Go.Vs

namespace Go.Vs

end Go.Vs

namespace Go.Vs

end Go.Vs

namespace Go.Vs

end Go.Vs
