/- What the functions compute. -/
import Derived.Test.YtfcemgcmpcmgcabExactStoreAtEng1
import Derived.Test.YtfcemgcmpcmgcabExactStoreAtEng2
set_option linter.unusedVariables false
set_option linter.unusedSimpArgs false
namespace Go.Vs

noncomputable def M.spec_copyInts (list_0 : List Int) : Option ((List Int)) :=
  (gapp ([] : List Int) list_0).bind fun xs6 =>
  some xs6

noncomputable def M.impl_validCoords (coords_0 : List Int) : Option Bool :=
  Option.bind (loopM (fun (s2 : (Int)) => (bif decide (s2 < (coords_0.length : Int)) then
  (gidx coords_0 s2).bind fun x5 =>
  Option.bind ((bif decide (x5 < (-100)) then
  some true
 else
  some (decide (100 < x5)))) fun o11 =>
  (bif o11 then
  some (.inr (.inr false))
 else
  some (.inl (w64 (s2 + 1))))
 else
  some (.inr (.inl ())))) 0) (selim (fun t15 => some true)
   (fun t17 => some t17))

noncomputable def M.impl_ValidVector (v_0 : List Int) : Option Bool :=
  (bif (v_0.length : Int) == 4 then
  (M.impl_validCoords v_0).bind fun r2 =>
  some r2
 else
  some false)

noncomputable def M.spec_inRange (n_0 : Int) (low_1 : Int) (high_2 : Int) : Option Bool :=
  (bif decide (low_1 ≤ n_0) then
  some (decide (n_0 ≤ high_2))
 else
  some false)

noncomputable def M.spec_allIn (list_0 : List Int) (low_1 : Int) (high_2 : Int) : Option Bool :=
  Option.bind (loopM (fun (s2 : (Int)) => (bif decide (s2 < (list_0.length : Int)) then
  (gidx list_0 s2).bind fun x7 =>
  (M.spec_inRange x7 low_1 high_2).bind fun r12 =>
  (bif !r12 then
  some (.inr (.inr false))
 else
  some (.inl (w64 (s2 + 1))))
 else
  some (.inr (.inl ())))) 0) (selim (fun t17 => some true)
   (fun t19 => some t19))

noncomputable def M.spec_isVector (v_0 : List Int) : Option Bool :=
  (bif (v_0.length : Int) == 4 then
  (M.spec_allIn v_0 (-100) 100).bind fun r2 =>
  some r2
 else
  some false)

noncomputable def M.spec_toInt (b_0 : Bool) : Option Int :=
  (bif b_0 then
  some 1
 else
  some 0)

noncomputable def M.laws_equalInts (a_0 : List Int) (b_1 : List Int) : Option Bool :=
  (bif (a_0.length : Int) != (b_1.length : Int) then
  some false
 else
  Option.bind (loopM (fun (s3 : (Int)) => (bif decide (s3 < (a_0.length : Int)) then
  (gidx a_0 s3).bind fun x9 =>
  (gidx b_1 s3).bind fun x14 =>
  (bif x9 != x14 then
  some (.inr (.inr false))
 else
  some (.inl (w64 (s3 + 1))))
 else
  some (.inr (.inl ())))) 0) (selim (fun t21 => some true)
   (fun t23 => some t23)))

noncomputable def M.spec_validItem (x_0 : Int × (List Int) × Int) : Option Bool :=
  (M.spec_inRange x_0.1 1 99).bind fun r7 =>
  (bif r7 then
  (M.spec_isVector x_0.2.1).bind fun r13 =>
  (bif r13 then
  (M.spec_inRange x_0.2.2 0 15).bind fun r19 =>
  some r19
 else
  some false)
 else
  some false)

noncomputable def M.spec_validStore (list_0 : List (Int × (List Int) × Int)) : Option Bool :=
  Option.bind (loopM (fun (s2 : (Int)) => (bif decide (s2 < (list_0.length : Int)) then
  Option.bind ((gidx list_0 s2).bind fun x8 =>
  (M.spec_validItem (x8.1, x8.2.1, x8.2.2)).bind fun r19 =>
  (bif !r19 then
  some true
 else
  (bif decide (0 < s2) then
  (gidx list_0 s2).bind fun x24 =>
  (gidx list_0 (w64 (s2 - 1))).bind fun x29 =>
  some (decide (x24.1 ≤ x29.1))
 else
  some false))) fun o7 =>
  (bif o7 then
  some (.inr (.inr false))
 else
  some (.inl (w64 (s2 + 1))))
 else
  some (.inr (.inl ())))) 0) (selim (fun t39 => some (decide ((list_0.length : Int) ≤ 16)))
   (fun t42 => some t42))

noncomputable def M.spec_copyItem (x_0 : Int × (List Int) × Int) : Option ((Int × (List Int) × Int)) :=
  (M.spec_copyInts x_0.2.1).bind fun r14 =>
  some (x_0.1, r14, x_0.2.2)

noncomputable def M.spec_put (list_0 : List (Int × (List Int) × Int)) (x_1 : Int × (List Int) × Int) : Option ((List (Int × (List Int) × Int))) :=
  Option.bind (loopM (fun (s14 : (List (Int × (List Int) × Int)) × (Int)) => (bif decide (s14.2 < (list_0.length : Int)) then
  Option.bind ((gidx list_0 s14.2).bind fun x26 =>
  (bif decide (x26.1 < x_1.1) then
  (gidx list_0 s14.2).bind fun x33 =>
  (M.spec_copyItem (x33.1, x33.2.1, x33.2.2)).bind fun r44 =>
  (gapp s14.1 ([(r44.1, r44.2.1, r44.2.2)] : List (Int × (List Int) × Int))).bind fun xs60 =>
  some xs60
 else
  some s14.1)) fun o25 =>
  some (.inl (o25, w64 (s14.2 + 1)))
 else
  some (.inr s14.1))) (([] : List (Int × (List Int) × Int)), 0)) fun o13 =>
  (M.spec_copyItem (x_1.1, x_1.2.1, x_1.2.2)).bind fun r87 =>
  (gapp o13 ([(r87.1, r87.2.1, r87.2.2)] : List (Int × (List Int) × Int))).bind fun xs103 =>
  Option.bind (loopM (fun (s115 : (List (Int × (List Int) × Int)) × (Int)) => (bif decide (s115.2 < (list_0.length : Int)) then
  Option.bind ((gidx list_0 s115.2).bind fun x127 =>
  (bif decide (x_1.1 < x127.1) then
  (gidx list_0 s115.2).bind fun x134 =>
  (M.spec_copyItem (x134.1, x134.2.1, x134.2.2)).bind fun r145 =>
  (gapp s115.1 ([(r145.1, r145.2.1, r145.2.2)] : List (Int × (List Int) × Int))).bind fun xs161 =>
  some xs161
 else
  some s115.1)) fun o126 =>
  some (.inl (o126, w64 (s115.2 + 1)))
 else
  some (.inr s115.1))) (xs103, 0)) fun o114 =>
  some o114

noncomputable def M.spec_PutItem (list_0 : List (Int × (List Int) × Int)) (x_1 : Int × (List Int) × Int) : Option ((List (Int × (List Int) × Int)) × Bool) :=
  Option.bind ((M.spec_validStore list_0).bind fun r8 =>
  (bif !r8 then
  some true
 else
  (M.spec_validItem (x_1.1, x_1.2.1, x_1.2.2)).bind fun r14 =>
  some (!r14))) fun o7 =>
  (bif o7 then
  some ([], false)
 else
  (M.spec_put list_0 (x_1.1, x_1.2.1, x_1.2.2)).bind fun r24 =>
  (M.spec_validStore r24).bind fun r35 =>
  (bif !r35 then
  some ([], false)
 else
  some (r24, true)))

noncomputable def M.impl_validKey (key_0 : Int) : Option Bool :=
  (bif decide (1 ≤ key_0) then
  some (decide (key_0 ≤ 99))
 else
  some false)

noncomputable def M.impl_validTags (tags_0 : Int) : Option Bool :=
  (bif decide (0 ≤ tags_0) then
  some (decide (tags_0 ≤ 15))
 else
  some false)

noncomputable def M.impl_validItem (x_0 : Int × (List Int) × Int) : Option Bool :=
  (M.impl_validKey x_0.1).bind fun r4 =>
  (bif r4 then
  (M.impl_ValidVector x_0.2.1).bind fun r10 =>
  (bif r10 then
  (M.impl_validTags x_0.2.2).bind fun r16 =>
  some r16
 else
  some false)
 else
  some false)

noncomputable def M.impl_ValidStore (list_0 : List (Int × (List Int) × Int)) : Option Bool :=
  (bif decide (16 < (list_0.length : Int)) then
  some false
 else
  Option.bind (loopM (fun (s3 : (Int) × (Int)) => (bif decide (s3.2 < (list_0.length : Int)) then
  (gidx list_0 s3.2).bind fun x8 =>
  Option.bind ((M.impl_validItem (x8.1, x8.2.1, x8.2.2)).bind fun r30 =>
  (bif !r30 then
  some true
 else
  some (decide (x8.1 ≤ s3.1)))) fun o29 =>
  (bif o29 then
  some (.inr (.inr false))
 else
  some (.inl (x8.1, w64 (s3.2 + 1))))
 else
  some (.inr (.inl ())))) (0, 0)) (selim (fun t41 => some true)
   (fun t43 => some t43)))

noncomputable def M.cmp_isNaN_int (x_0 : Int) : Option Bool :=
  some (x_0 != x_0)

noncomputable def M.cmp_Compare_int (x_0 : Int) (y_1 : Int) : Option Int :=
  (M.cmp_isNaN_int x_0).bind fun r1 =>
  (M.cmp_isNaN_int y_1).bind fun r5 =>
  (bif r1 then
  (bif r5 then
  some 0
 else
  some (-1))
 else
  (bif r5 then
  some 1
 else
  (bif decide (x_0 < y_1) then
  some (-1)
 else
  (bif decide (y_1 < x_0) then
  some 1
 else
  some 0))))

noncomputable def M.impl_placeOf_1 (x_0 : Int × (List Int) × Int) (key_1 : Int) : Option Int :=
  (M.cmp_Compare_int x_0.1 key_1).bind fun r7 =>
  some r7

end Go.Vs

namespace Go.Vs

noncomputable def M.spec_keyAt (list_0 : List (Int × (List Int) × Int)) (key_1 : Int) : Option Int :=
  Option.bind (loopM (fun (s2 : (Int)) => (bif decide (s2 < (list_0.length : Int)) then
  (gidx list_0 s2).bind fun x7 =>
  (bif x7.1 == key_1 then
  some (.inr (.inr s2))
 else
  some (.inl (w64 (s2 + 1))))
 else
  some (.inr (.inl ())))) 0) (selim (fun t13 => some (-1))
   (fun t15 => some t15))

noncomputable def M.spec_DropItem (list_0 : List (Int × (List Int) × Int)) (key_1 : Int) : Option ((List (Int × (List Int) × Int)) × Bool) :=
  Option.bind ((M.spec_validStore list_0).bind fun r2 =>
  (bif !r2 then
  some true
 else
  (M.spec_keyAt list_0 key_1).bind fun r7 =>
  some (decide (r7 < 0)))) fun o1 =>
  (bif o1 then
  some ([], false)
 else
  Option.bind (loopM (fun (s20 : (List (Int × (List Int) × Int)) × (Int)) => (bif decide (s20.2 < (list_0.length : Int)) then
  Option.bind ((gidx list_0 s20.2).bind fun x29 =>
  (bif x29.1 != key_1 then
  (gidx list_0 s20.2).bind fun x35 =>
  (M.spec_copyItem (x35.1, x35.2.1, x35.2.2)).bind fun r46 =>
  (gapp s20.1 ([(r46.1, r46.2.1, r46.2.2)] : List (Int × (List Int) × Int))).bind fun xs60 =>
  some xs60
 else
  some s20.1)) fun o28 =>
  some (.inl (o28, w64 (s20.2 + 1)))
 else
  some (.inr s20.1))) (([] : List (Int × (List Int) × Int)), 0)) fun o19 =>
  some (o19, true))

end Go.Vs

namespace Go.Vs

noncomputable def M.laws_toIntS (a_0 : List Int) : Option ((List Int)) :=
  (gmake (a_0.length : Int) (0 : Int)).bind fun xs1 =>
  Option.bind (loopM (fun (s10 : (List Int) × (Int)) => (bif decide (s10.2 < (a_0.length : Int)) then
  (gidx a_0 s10.2).bind fun x18 =>
  (gidx s10.1 s10.2).bind fun x23 =>
  some (.inl ((s10.1.set s10.2.toNat x18), w64 (s10.2 + 1)))
 else
  some (.inr s10.1))) (xs1, 0)) fun o9 =>
  some o9

noncomputable def M.laws_eqIntS (a_0 : List Int) (b_1 : List Int) : Option Bool :=
  (bif (a_0.length : Int) != (b_1.length : Int) then
  some false
 else
  Option.bind (loopM (fun (s3 : (Int)) => (bif decide (s3 < (a_0.length : Int)) then
  (gidx a_0 s3).bind fun x9 =>
  (gidx b_1 s3).bind fun x14 =>
  (bif x9 != x14 then
  some (.inr (.inr false))
 else
  some (.inl (w64 (s3 + 1))))
 else
  some (.inr (.inl ())))) 0) (selim (fun t21 => some true)
   (fun t23 => some t23)))

noncomputable def M.laws_szIntS (a_0 : List Int) (left_1 : Int) : Option Int :=
  (bif decide ((w64 (left_1 - (a_0.length : Int))) < 0) then
  some (-1)
 else
  some (w64 (left_1 - (a_0.length : Int))))

noncomputable def M.laws_heldIntS (a_0 : List Int) (k_1 : Int) : Option Int :=
  Option.bind (loopM (fun (s2 : (Int) × (Int)) => (bif decide (s2.2 < (a_0.length : Int)) then
  (gidx a_0 s2.2).bind fun x7 =>
  (bif x7 != s2.1 then
  some (.inr (.inr (-1)))
 else
  some (.inl (w64 (s2.1 + 1), w64 (s2.2 + 1))))
 else
  some (.inr (.inl s2.1)))) (k_1, 0)) (selim (fun t13 => some t13)
   (fun t15 => some t15))

noncomputable def M.laws_szItem (a_0 : Int × (List Int) × Int) (left_1 : Int) : Option Int :=
  (M.laws_szIntS a_0.2.1 left_1).bind fun r7 =>
  (bif decide (r7 < 0) then
  some (-1)
 else
  some r7)

noncomputable def M.laws_toItem (a_0 : Int × (List Int) × Int) : Option ((Int × (List Int) × Int)) :=
  (M.laws_toIntS a_0.2.1).bind fun r26 =>
  some (a_0.1, r26, a_0.2.2)

noncomputable def M.laws_eqItem (a_0 : Int × (List Int) × Int) (b_1 : Int × (List Int) × Int) : Option Bool :=
  (bif a_0.1 != b_1.1 then
  some false
 else
  (M.laws_eqIntS a_0.2.1 b_1.2.1).bind fun r15 =>
  (bif !r15 then
  some false
 else
  (bif a_0.2.2 != b_1.2.2 then
  some false
 else
  some true)))

noncomputable def M.laws_eqItemS (a_0 : List (Int × (List Int) × Int)) (b_1 : List (Int × (List Int) × Int)) : Option Bool :=
  (bif (a_0.length : Int) != (b_1.length : Int) then
  some false
 else
  Option.bind (loopM (fun (s3 : (Int)) => (bif decide (s3 < (a_0.length : Int)) then
  (gidx a_0 s3).bind fun x9 =>
  (gidx b_1 s3).bind fun x20 =>
  (M.laws_eqItem (x9.1, x9.2.1, x9.2.2) (x20.1, x20.2.1, x20.2.2)).bind fun r32 =>
  (bif !r32 then
  some (.inr (.inr false))
 else
  some (.inl (w64 (s3 + 1))))
 else
  some (.inr (.inl ())))) 0) (selim (fun t37 => some true)
   (fun t39 => some t39)))

noncomputable def M.laws_heldItemS (a_0 : List (Int × (List Int) × Int)) (k_1 : Int) : Option Int :=
  Option.bind (loopM (fun (s2 : (Int) × (Int)) => (bif decide (s2.2 < (a_0.length : Int)) then
  (gidx a_0 s2.2).bind fun x7 =>
  (bif x7.1 != s2.1 then
  some (.inr (.inr (-1)))
 else
  (gidx a_0 s2.2).bind fun x13 =>
  (M.laws_heldIntS x13.2.1 (w64 (s2.1 + 1))).bind fun r23 =>
  (bif decide (r23 < 0) then
  some (.inr (.inr (-1)))
 else
  (gidx a_0 s2.2).bind fun x28 =>
  (bif x28.2.2 != r23 then
  some (.inr (.inr (-1)))
 else
  some (.inl (w64 (r23 + 1), w64 (s2.2 + 1))))))
 else
  some (.inr (.inl s2.1)))) (k_1, 0)) (selim (fun t34 => some t34)
   (fun t36 => some t36))

end Go.Vs

namespace Go.Vs

end Go.Vs

namespace Go.Vs

end Go.Vs

namespace Go.Vs

noncomputable def M.slices_BinarySearchFunc_impl_Item_impl_Item_int__impl_placeOf_1 (x_0 : List (Int × (List Int) × Int)) (target_1 : Int) : Option (Int × Bool) :=
  Option.bind (loopM (fun (s2 : (Int) × (Int)) => (bif decide (s2.1 < s2.2) then
  (gidx x_0 (wk .i64 (gshr .u64 (wk .u64 (w64 (s2.1 + s2.2))) 1))).bind fun x5 =>
  (M.impl_placeOf_1 (x5.1, x5.2.1, x5.2.2) target_1).bind fun r15 =>
  (bif decide (r15 < 0) then
  some (.inl (w64 ((wk .i64 (gshr .u64 (wk .u64 (w64 (s2.1 + s2.2))) 1)) + 1), s2.2))
 else
  some (.inl (s2.1, wk .i64 (gshr .u64 (wk .u64 (w64 (s2.1 + s2.2))) 1))))
 else
  some (.inr s2.1))) (0, (x_0.length : Int))) fun o1 =>
  (bif decide (o1 < (x_0.length : Int)) then
  (gidx x_0 o1).bind fun x22 =>
  (M.impl_placeOf_1 (x22.1, x22.2.1, x22.2.2) target_1).bind fun r32 =>
  some (o1, r32 == 0)
 else
  some (o1, false))

noncomputable def M.impl_placeOf (list_0 : List (Int × (List Int) × Int)) (key_1 : Int) : Option (Int × Bool) :=
  (M.slices_BinarySearchFunc_impl_Item_impl_Item_int__impl_placeOf_1 list_0 key_1).bind fun r1 =>
  some (r1.1, r1.2)

noncomputable def M.slices_Clone_int_int (s_0 : List Int) : Option ((List Int)) :=
  (gapp ([] : List Int) s_0).bind fun xs4 =>
  some xs4

noncomputable def M.impl_copyItem (x_0 : Int × (List Int) × Int) : Option ((Int × (List Int) × Int)) :=
  (M.slices_Clone_int_int x_0.2.1).bind fun r7 =>
  some (x_0.1, r7, x_0.2.2)

noncomputable def M.impl_copyItems (list_0 : List (Int × (List Int) × Int)) : Option ((List (Int × (List Int) × Int))) :=
  (gmake (list_0.length : Int) ((0, [], 0) : Int × (List Int) × Int)).bind fun xs1 =>
  Option.bind (loopM (fun (s8 : (List (Int × (List Int) × Int)) × (Int)) => (bif decide (s8.2 < (list_0.length : Int)) then
  (gidx list_0 s8.2).bind fun x13 =>
  (M.impl_copyItem (x13.1, x13.2.1, x13.2.2)).bind fun r27 =>
  (gidx s8.1 s8.2).bind fun x33 =>
  some (.inl ((s8.1.set s8.2.toNat (r27.1, r27.2.1, r27.2.2)), w64 (s8.2 + 1)))
 else
  some (.inr s8.1))) (xs1, 0)) fun o7 =>
  some o7

end Go.Vs

namespace Go.Vs

end Go.Vs

namespace Go.Vs

noncomputable def M.laws_markIntS (a_0 : List Int) (k_1 : Int) : Option (Int × (List Int)) :=
  Option.bind (loopM (fun (s2 : (List Int) × (Int) × (Int)) => (bif decide (s2.2.2 < (s2.1.length : Int)) then
  (gidx s2.1 s2.2.2).bind fun x6 =>
  some (.inl ((s2.1.set s2.2.2.toNat s2.2.1), w64 (s2.2.1 + 1), w64 (s2.2.2 + 1)))
 else
  some (.inr (s2.1, s2.2.1)))) (a_0, k_1, 0)) fun o1 =>
  some (o1.2, o1.1)

end Go.Vs

namespace Go.Vs

end Go.Vs

namespace Go.Vs

end Go.Vs

namespace Go.Vs

end Go.Vs

namespace Go.Vs

theorem gmake_nat {α : Type} (n : Nat) (z : α) (h : n ≤ 2147483648) : gmake (n : Int) z = some (List.replicate n z) := by
  unfold gmake
  rw [if_pos (by omega)]; simp
end Go.Vs

namespace Go.Vs

end Go.Vs

namespace Go.Vs

end Go.Vs

namespace Go.Vs

end Go.Vs

namespace Go.Vs

end Go.Vs

namespace Go.Vs

end Go.Vs

namespace Go.Vs

noncomputable def M.dmarkItemSB : List (Int × (List Int) × Int) → Int → Option (Int × List (Int × (List Int) × Int))
  | [], k => some (k, [])
  | x :: xs, k => (M.laws_markIntS x.2.1 (w64 (k + 1))).bind fun q => (M.dmarkItemSB xs (w64 (q.1 + 1))).bind fun t => some (t.1, (k, q.2, q.1) :: t.2)

noncomputable def M.markItemB (a : List (Int × (List Int) × Int)) (k : Int) : Option (Int × List (Int × (List Int) × Int)) := if a.length ≤ 2147483648 then M.dmarkItemSB a k else none

theorem markItemB_some {a : List (Int × (List Int) × Int)} {k : Int} {r : Int × List (Int × (List Int) × Int)} (h : M.markItemB a k = some r) : a.length ≤ 2147483648 ∧ M.dmarkItemSB a k = some r := by
  unfold M.markItemB at h; split at h
  · exact ⟨by assumption, h⟩
  · cases h
theorem gidx_mid {β : Type} {A B : List β} {e : β} {i : Nat} (h : A.length = i) : gidx (A ++ e :: B) (i : Int) = some e := by
  subst h
  unfold gidx
  rw [if_pos (by omega)]
  simp
theorem set_mid {β : Type} {A B : List β} {e e' : β} {i : Nat} (h : A.length = i) : (A ++ e :: B).set i e' = A ++ e' :: B := by
  subst h
  rw [List.set_append_right _ _ (Nat.le_refl _), Nat.sub_self, List.set_cons_zero]

/-- slices.Delete and slices.Insert, whatever the elements. -/
def gdel {α : Type} (s_0 : List α) (i_1 : Int) (j_2 : Int) : Option (List α) :=
  (gthree i_1 j_2 (s_0.length : Int) s_0.length).bind fun o1 =>
  (bif i_1 == j_2 then
  some s_0
 else
  (gslice s_0 0 i_1).bind fun xs4 =>
  (gslice s_0 j_2 (s_0.length : Int)).bind fun xs10 =>
  (gapp xs4 xs10).bind fun xs17 =>
  some xs17)

def gins {α : Type} (z : α) (s_0 : List α) (i_1 : Int) (v_2 : List α) : Option (List α) :=
  (gslice s_0 i_1 (s_0.length : Int)).bind fun xs1 =>
  (bif (v_2.length : Int) == 0 then
  some s_0
 else
  (bif i_1 == (s_0.length : Int) then
  (gapp s_0 v_2).bind fun xs9 =>
  some xs9
 else
  (bif decide ((s_0.length : Int) < (w64 ((s_0.length : Int) + (v_2.length : Int)))) then
  (gslice s_0 0 i_1).bind fun xs15 =>
  (gappz xs15 (w64 ((w64 ((s_0.length : Int) + (v_2.length : Int))) - i_1)) z).bind fun xs21 =>
  (gslice xs21 i_1 (xs21.length : Int)).bind fun xs26 =>
  (gslice (gcopyAt xs21 (i_1).toNat xs26.length v_2) (w64 (i_1 + (v_2.length : Int))) ((gcopyAt xs21 (i_1).toNat xs26.length v_2).length : Int)).bind fun xs33 =>
  (gslice s_0 i_1 (s_0.length : Int)).bind fun xs39 =>
  some (gcopyAt (gcopyAt xs21 (i_1).toNat xs26.length v_2) (w64 (i_1 + (v_2.length : Int))).toNat xs33.length xs39)
 else
  none)))

noncomputable def M.delItemD (s : List (Int × (List Int) × Int)) (i j : Int) : Option (List (Int × (List Int) × Int)) :=
  if 0 ≤ i ∧ i ≤ j ∧ j ≤ (s.length : Int) ∧ s.length ≤ 1000000 then some (s.take i.toNat ++ s.drop j.toNat) else none

noncomputable def M.insItemD (s : List (Int × (List Int) × Int)) (i : Int) (x : Int × (List Int) × Int) : Option (List (Int × (List Int) × Int)) :=
  if 0 ≤ i ∧ i ≤ (s.length : Int) ∧ s.length ≤ 1000000 then some (s.take i.toNat ++ x :: s.drop i.toNat) else none

theorem delItemD_some {s r : List (Int × (List Int) × Int)} {i j : Int} (h : M.delItemD s i j = some r) : ∃ a b : Nat, i = (a : Int) ∧ j = (b : Int) ∧ a ≤ b ∧ b ≤ s.length ∧ s.length ≤ 1000000 ∧ r = s.take a ++ s.drop b := by
  unfold M.delItemD at h; split at h
  · rename_i hc
    exact ⟨i.toNat, j.toNat, by omega, by omega, by omega, by omega, hc.2.2.2, (Option.some.inj h).symm⟩
  · cases h
theorem insItemD_some {s r : List (Int × (List Int) × Int)} {i : Int} {x : Int × (List Int) × Int} (h : M.insItemD s i x = some r) : ∃ a : Nat, i = (a : Int) ∧ a ≤ s.length ∧ s.length ≤ 1000000 ∧ r = s.take a ++ x :: s.drop a := by
  unfold M.insItemD at h; split at h
  · rename_i hc
    exact ⟨i.toNat, by omega, by omega, hc.2.2, (Option.some.inj h).symm⟩
  · cases h
theorem gslice_nat {α : Type} {xs : List α} {l h : Nat} (h1 : l ≤ h) (h2 : h ≤ xs.length) : gslice xs (l : Int) (h : Int) = some ((xs.take h).drop l) := by
  unfold gslice; rw [if_pos (by omega)]; simp
theorem gdel_ok {α : Type} {s : List α} {a b : Nat} (h1 : a ≤ b) (h2 : b ≤ s.length) (h3 : s.length ≤ 1000000) : gdel s (a : Int) (b : Int) = some (s.take a ++ s.drop b) := by
  unfold gdel
  have g0 : gthree (a : Int) (b : Int) (s.length : Int) s.length = some () := by
    unfold gthree; rw [if_pos (by omega)]
  have g1 : gslice s 0 (a : Int) = some (s.take a) := by
    have := gslice_nat (xs := s) (l := 0) (h := a) (by omega) (by omega)
    simpa using this
  have g2 : gslice s (b : Int) (s.length : Int) = some (s.drop b) := by
    rw [gslice_nat h2 (Nat.le_refl _), List.take_length]
  simp only [g0, Option.bind_some]
  by_cases h : a = b
  · subst h
    simp
  · have e : ((a : Int) == (b : Int)) = false := beq_eq_false_iff_ne.2 (by omega)
    simp only [e, cond_false, g1, g2, Option.bind_some]
    unfold gapp
    rw [if_pos (by simp; omega)]; rfl

theorem gcopyAt_midG {α : Type} {A B ys : List α} {n i : Nat} (hA : A.length = i) : gcopyAt (A ++ B) i n ys = A ++ (ys.take n ++ B.drop (min n ys.length)) := by
  subst hA
  unfold gcopyAt
  rw [List.take_left, List.drop_append, List.drop_eq_nil_of_le (by omega), Nat.add_sub_cancel_left, List.nil_append]
theorem gins_ok {α : Type} {z : α} {s : List α} {x : α} {i : Nat} (hi : i ≤ s.length) (hl : s.length ≤ 1000000) : gins z s (i : Int) [x] = some (s.take i ++ x :: s.drop i) := by
  unfold gins
  have g1 : gslice s (i : Int) (s.length : Int) = some (s.drop i) := by
    rw [gslice_nat hi (Nat.le_refl _), List.take_length]
  have e1 : ((([x] : List α).length : Int) == 0) = false := rfl
  simp only [g1, e1, cond_false, Option.bind_some]
  by_cases hc : i = s.length
  · have e2 : ((i : Int) == (s.length : Int)) = true := beq_iff_eq.2 (by omega)
    simp only [e2, cond_true]
    unfold gapp
    rw [if_pos (by simp; omega)]
    simp [hc]
  · have e2 : ((i : Int) == (s.length : Int)) = false := beq_eq_false_iff_ne.2 (by omega)
    have e3 : w64 ((s.length : Int) + (([x] : List α).length : Int)) = ((s.length + 1 : Nat) : Int) := w64_id (by simp; omega) (by simp; omega)
    have e4 : decide ((s.length : Int) < ((s.length + 1 : Nat) : Int)) = true := decide_eq_true (by omega)
    have g2 : gslice s 0 (i : Int) = some (s.take i) := by
      have := gslice_nat (xs := s) (l := 0) (h := i) (by omega) hi
      simpa using this
    have e5 : w64 (((s.length + 1 : Nat) : Int) - (i : Int)) = ((s.length + 1 - i : Nat) : Int) := by rw [w64_id (by omega) (by omega)]; omega
    have g3 : gappz (s.take i) ((s.length + 1 - i : Nat) : Int) z = some (s.take i ++ List.replicate (s.length + 1 - i) z) := by
      unfold gappz; rw [if_pos (by simp; omega)]; simp
    simp only [e2, cond_false, e3, e4, cond_true, g2, e5, g3, Option.bind_some]
    have hA : (s.take i).length = i := by rw [List.length_take]; omega
    have hL : (s.take i ++ List.replicate (s.length + 1 - i) z).length = s.length + 1 := by simp; omega
    have g4 : gslice (s.take i ++ List.replicate (s.length + 1 - i) z) (i : Int) ((s.take i ++ List.replicate (s.length + 1 - i) z).length : Int) = some (List.replicate (s.length + 1 - i) z) := by
      rw [gslice_nat (by omega) (Nat.le_refl _), List.take_length]
      rw [List.drop_append_of_le_length (by simp; omega), List.drop_eq_nil_of_le (by simp; omega), List.nil_append]
    have c1 : gcopyAt (s.take i ++ List.replicate (s.length + 1 - i) z) ((i : Int)).toNat (List.replicate (s.length + 1 - i) z).length [x] = s.take i ++ x :: List.replicate (s.length - i) z := by
      rw [Int.toNat_natCast, gcopyAt_midG hA, List.take_of_length_le (l := [x]) (by simp; omega), List.drop_replicate]
      have : s.length + 1 - i - min (List.replicate (s.length + 1 - i) z).length ([x] : List α).length = s.length - i := by
        simp only [List.length_replicate, List.length_cons, List.length_nil]; omega
      rw [this]; rfl
    have hL2 : (s.take i ++ x :: List.replicate (s.length - i) z).length = s.length + 1 := by simp; omega
    have e6 : w64 ((i : Int) + (([x] : List α).length : Int)) = ((i + 1 : Nat) : Int) := w64_id (by simp; omega) (by simp; omega)
    have g5 : gslice (s.take i ++ x :: List.replicate (s.length - i) z) ((i + 1 : Nat) : Int) ((s.take i ++ x :: List.replicate (s.length - i) z).length : Int) = some (List.replicate (s.length - i) z) := by
      rw [gslice_nat (by omega) (Nat.le_refl _), List.take_length]
      rw [List.drop_append, List.drop_eq_nil_of_le (by simp; omega)]
      have : i + 1 - (s.take i).length = 1 := by simp; omega
      rw [this]; simp
    simp only [g4, c1, e6, g5, Option.bind_some]
    congr 1
    have hA2 : (s.take i ++ [x]).length = i + 1 := by rw [List.length_append, hA]; rfl
    have := gcopyAt_midG (A := s.take i ++ [x]) (B := List.replicate (s.length - i) z) (ys := s.drop i) (n := (List.replicate (s.length - i) z).length) hA2
    rw [List.append_assoc, List.singleton_append] at this
    rw [Int.toNat_natCast, this, List.take_of_length_le (l := s.drop i) (by simp), List.drop_eq_nil_of_le (as := List.replicate (s.length - i) z) (by simp)]
    simp

noncomputable def M.impl_DropItemD (list_0 : List (Int × (List Int) × Int)) (key_1 : Int) : Option ((List (Int × (List Int) × Int)) × Bool) :=
  (M.impl_ValidStore list_0).bind fun r1 =>
  (bif !r1 then
  some ([], false)
 else
  (M.impl_placeOf list_0 key_1).bind fun r8 =>
  (bif !r8.2 then
  some ([], false)
 else
  (M.impl_copyItems list_0).bind fun r15 =>
  (M.delItemD r15 r8.1 (w64 (r8.1 + 1))).bind fun r23 =>
  some (r23, true)))

noncomputable def M.impl_PutItemD (list_0 : List (Int × (List Int) × Int)) (x_1 : Int × (List Int) × Int) : Option ((List (Int × (List Int) × Int)) × Bool) :=
  Option.bind ((M.impl_ValidStore list_0).bind fun r4 =>
  (bif !r4 then
  some true
 else
  (M.impl_validItem (x_1.1, x_1.2.1, x_1.2.2)).bind fun r10 =>
  some (!r10))) fun o3 =>
  (bif o3 then
  some ([], false)
 else
  (M.impl_placeOf list_0 x_1.1).bind fun r19 =>
  (bif r19.2 then
  (M.impl_copyItems list_0).bind fun r24 =>
  (M.impl_copyItem (x_1.1, x_1.2.1, x_1.2.2)).bind fun r34 =>
  (gidx r24 r19.1).bind fun x40 =>
  some ((r24.set r19.1.toNat (r34.1, r34.2.1, r34.2.2)), true)
 else
  (bif (list_0.length : Int) == 16 then
  some ([], false)
 else
  (M.impl_copyItems list_0).bind fun r55 =>
  (M.impl_copyItem (x_1.1, x_1.2.1, x_1.2.2)).bind fun r64 =>
  (M.insItemD r55 r19.1 (r64.1, r64.2.1, r64.2.2)).bind fun r71 =>
  some (r71, true))))

end Go.Vs

namespace Go.Vs

end Go.Vs

namespace Go.Vs

end Go.Vs

namespace Go.Vs

end Go.Vs

namespace Go.Vs

end Go.Vs

namespace Go.Vs

end Go.Vs

namespace Go.Vs

end Go.Vs

namespace Go.Vs

noncomputable def M.spec_validEntry (e_0 : Int × (Int × (List Int) × Int)) : Option Bool :=
  (bif e_0.1 == 1 then
  (M.spec_validItem (e_0.2.1, e_0.2.2.1, e_0.2.2.2)).bind fun r6 =>
  some r6
 else
  (bif e_0.1 == 2 then
  (M.spec_inRange e_0.2.1 1 99).bind fun r13 =>
  (bif r13 then
  (bif (e_0.2.2.1.length : Int) == 0 then
  some (e_0.2.2.2 == 0)
 else
  some false)
 else
  some false)
 else
  some false))

noncomputable def M.spec_validLog (list_0 : List (Int × (Int × (List Int) × Int))) : Option Bool :=
  Option.bind (loopM (fun (s2 : (Int)) => (bif decide (s2 < (list_0.length : Int)) then
  (gidx list_0 s2).bind fun x5 =>
  (M.spec_validEntry (x5.1, (x5.2.1, x5.2.2.1, x5.2.2.2))).bind fun r15 =>
  (bif !r15 then
  some (.inr (.inr false))
 else
  some (.inl (w64 (s2 + 1))))
 else
  some (.inr (.inl ())))) 0) (selim (fun t20 => some (decide ((list_0.length : Int) ≤ 32)))
   (fun t22 => some t22))

noncomputable def M.spec_copyStore (list_0 : List (Int × (List Int) × Int)) : Option ((List (Int × (List Int) × Int))) :=
  Option.bind (loopM (fun (s4 : (List (Int × (List Int) × Int)) × (Int)) => (bif decide (s4.2 < (list_0.length : Int)) then
  (gidx list_0 s4.2).bind fun x9 =>
  (M.spec_copyItem (x9.1, x9.2.1, x9.2.2)).bind fun r19 =>
  (gapp s4.1 ([(r19.1, r19.2.1, r19.2.2)] : List (Int × (List Int) × Int))).bind fun xs29 =>
  some (.inl (xs29, w64 (s4.2 + 1)))
 else
  some (.inr s4.1))) (([] : List (Int × (List Int) × Int)), 0)) fun o3 =>
  some o3

noncomputable def M.spec_apply (list_0 : List (Int × (List Int) × Int)) (e_1 : Int × (Int × (List Int) × Int)) : Option ((List (Int × (List Int) × Int)) × Bool) :=
  (bif e_1.1 == 1 then
  (M.spec_PutItem list_0 (e_1.2.1, e_1.2.2.1, e_1.2.2.2)).bind fun r6 =>
  some (r6.1, r6.2)
 else
  (M.spec_DropItem list_0 e_1.2.1).bind fun r13 =>
  some (r13.1, r13.2))

noncomputable def M.spec_ReplayLog (list_0 : List (Int × (List Int) × Int)) (log_1 : List (Int × (Int × (List Int) × Int))) : Option ((List (Int × (List Int) × Int)) × Int) :=
  Option.bind ((M.spec_validStore list_0).bind fun r2 =>
  (bif !r2 then
  some true
 else
  (M.spec_validLog log_1).bind fun r7 =>
  some (!r7))) fun o1 =>
  (bif o1 then
  some ([], -1)
 else
  (M.spec_copyStore list_0).bind fun r13 =>
  Option.bind (loopM (fun (s20 : (List (Int × (List Int) × Int)) × (Int)) => (bif decide (s20.2 < (log_1.length : Int)) then
  (gidx log_1 s20.2).bind fun x25 =>
  (M.spec_apply s20.1 (x25.1, (x25.2.1, x25.2.2.1, x25.2.2.2))).bind fun r35 =>
  (bif !r35.2 then
  some (.inr (.inr (s20.1, s20.2)))
 else
  some (.inl (r35.1, w64 (s20.2 + 1))))
 else
  some (.inr (.inl s20.1)))) (r13, 0)) (selim (fun t42 => some (t42, (log_1.length : Int)))
   (fun t46 => some (t46.1, t46.2))))

noncomputable def M.laws_eqEntry (a_0 : Int × (Int × (List Int) × Int)) (b_1 : Int × (Int × (List Int) × Int)) : Option Bool :=
  (bif a_0.1 != b_1.1 then
  some false
 else
  (M.laws_eqItem (a_0.2.1, a_0.2.2.1, a_0.2.2.2) (b_1.2.1, b_1.2.2.1, b_1.2.2.2)).bind fun r10 =>
  (bif !r10 then
  some false
 else
  some true))

noncomputable def M.laws_eqEntryS (a_0 : List (Int × (Int × (List Int) × Int))) (b_1 : List (Int × (Int × (List Int) × Int))) : Option Bool :=
  (bif (a_0.length : Int) != (b_1.length : Int) then
  some false
 else
  Option.bind (loopM (fun (s3 : (Int)) => (bif decide (s3 < (a_0.length : Int)) then
  (gidx a_0 s3).bind fun x6 =>
  (gidx b_1 s3).bind fun x16 =>
  (M.laws_eqEntry (x6.1, (x6.2.1, x6.2.2.1, x6.2.2.2)) (x16.1, (x16.2.1, x16.2.2.1, x16.2.2.2))).bind fun r28 =>
  (bif !r28 then
  some (.inr (.inr false))
 else
  some (.inl (w64 (s3 + 1))))
 else
  some (.inr (.inl ())))) 0) (selim (fun t33 => some true)
   (fun t35 => some t35)))

noncomputable def M.laws_szEntry (a_0 : Int × (Int × (List Int) × Int)) (left_1 : Int) : Option Int :=
  (M.laws_szItem (a_0.2.1, a_0.2.2.1, a_0.2.2.2) left_1).bind fun r4 =>
  (bif decide (r4 < 0) then
  some (-1)
 else
  some r4)

noncomputable def M.laws_szEntryS (a_0 : List (Int × (Int × (List Int) × Int))) (left_1 : Int) : Option Int :=
  (bif decide ((w64 (left_1 - (a_0.length : Int))) < 0) then
  some (-1)
 else
  Option.bind (loopM (fun (s3 : (Int) × (Int)) => (bif decide (s3.2 < (a_0.length : Int)) then
  (gidx a_0 s3.2).bind fun x6 =>
  (M.laws_szEntry (x6.1, (x6.2.1, x6.2.2.1, x6.2.2.2)) s3.1).bind fun r16 =>
  (bif decide (r16 < 0) then
  some (.inr (.inr (-1)))
 else
  some (.inl (r16, w64 (s3.2 + 1))))
 else
  some (.inr (.inl s3.1)))) (w64 (left_1 - (a_0.length : Int)), 0)) (selim (fun t21 => some t21)
   (fun t23 => some t23)))

noncomputable def M.laws_toEntry (a_0 : Int × (Int × (List Int) × Int)) : Option ((Int × (Int × (List Int) × Int))) :=
  (M.laws_toItem (a_0.2.1, a_0.2.2.1, a_0.2.2.2)).bind fun r10 =>
  some (a_0.1, (r10.1, r10.2.1, r10.2.2))

end Go.Vs

namespace Go.Vs

noncomputable def M.cmp_Less_int (x_0 : Int) (y_1 : Int) : Option Bool :=
  (M.cmp_isNaN_int x_0).bind fun r1 =>
  (bif r1 then
  (M.cmp_isNaN_int y_1).bind fun r6 =>
  (bif !r6 then
  some true
 else
  some (decide (x_0 < y_1)))
 else
  some (decide (x_0 < y_1)))

end Go.Vs

namespace Go.Vs

open Classical in
noncomputable def M.dEntS (a : List (Int × (Int × (List Int) × Int))) : Option (List (Int × (Int × (List Int) × Int))) :=
  if a.length ≤ 2147483648 ∧ ∀ x ∈ a, M.laws_toEntry x = some x then some a else none

noncomputable def M.dmarkEntS : List (Int × (Int × (List Int) × Int)) → Int → Option Int
  | [], k => some k
  | x :: xs, k => (M.laws_markIntS x.2.2.1 (w64 (w64 (k + 1) + 1))).bind fun q => M.dmarkEntS xs (w64 (q.1 + 1))

noncomputable def M.markEntD (a : List (Int × (Int × (List Int) × Int))) (k : Int) : Option Int := if a.length ≤ 2147483648 then M.dmarkEntS a k else none

theorem markEntD_some {a : List (Int × (Int × (List Int) × Int))} {k r : Int} (h : M.markEntD a k = some r) : a.length ≤ 2147483648 ∧ M.dmarkEntS a k = some r := by
  unfold M.markEntD at h; split at h
  · exact ⟨by assumption, h⟩
  · cases h
theorem dEntS_some {a r : List (Int × (Int × (List Int) × Int))} (h : M.dEntS a = some r) : a.length ≤ 2147483648 ∧ (∀ x ∈ a, M.laws_toEntry x = some x) ∧ r = a := by
  unfold M.dEntS at h
  split at h
  · rename_i hc
    exact ⟨hc.1, hc.2, (Option.some.inj h).symm⟩
  · cases h
end Go.Vs

namespace Go.Vs

noncomputable def M.spec_validHistory (h_0 : (List (Int × (Int × (List Int) × Int))) × (List Int)) : Option Bool :=
  Option.bind ((M.spec_validLog h_0.1).bind fun r5 =>
  (bif !r5 then
  some true
 else
  some ((h_0.2.length : Int) != (h_0.1.length : Int)))) fun o3 =>
  (bif o3 then
  some false
 else
  Option.bind (loopM (fun (s15 : (Int)) => (bif decide (s15 < (h_0.2.length : Int)) then
  Option.bind ((gidx h_0.2 s15).bind fun x21 =>
  (M.spec_inRange x21 1 1000).bind fun r27 =>
  (bif !r27 then
  some true
 else
  (bif decide (0 < s15) then
  (gidx h_0.2 s15).bind fun x34 =>
  (gidx h_0.2 (w64 (s15 - 1))).bind fun x41 =>
  some (decide (x34 < x41))
 else
  some false))) fun o19 =>
  (bif o19 then
  some (.inr (.inr false))
 else
  some (.inl (w64 (s15 + 1))))
 else
  some (.inr (.inl ())))) 0) (selim (fun t51 => (M.spec_ReplayLog ([] : List (Int × (List Int) × Int)) h_0.1).bind fun r58 =>
  some (r58.2 == (h_0.1.length : Int)))
   (fun t65 => some t65)))

noncomputable def M.spec_upTo (h_0 : (List (Int × (Int × (List Int) × Int))) × (List Int)) (t_1 : Int) : Option Int :=
  Option.bind (loopM (fun (s4 : (Int) × (Int)) => (bif decide (s4.2 < (h_0.2.length : Int)) then
  (gidx h_0.2 s4.2).bind fun x9 =>
  (M.spec_toInt (decide (x9 ≤ t_1))).bind fun r15 =>
  some (.inl (w64 (s4.1 + r15), w64 (s4.2 + 1)))
 else
  some (.inr s4.1))) (0, 0)) fun o3 =>
  some o3

noncomputable def M.spec_StoreAt (h_0 : (List (Int × (Int × (List Int) × Int))) × (List Int)) (t_1 : Int) : Option ((List (Int × (List Int) × Int))) :=
  Option.bind ((M.spec_validHistory (h_0.1, h_0.2)).bind fun r5 =>
  (bif !r5 then
  some true
 else
  (M.spec_inRange t_1 0 1000).bind fun r10 =>
  some (!r10))) fun o3 =>
  (bif o3 then
  some []
 else
  (M.spec_upTo (h_0.1, h_0.2) t_1).bind fun r19 =>
  (gslice h_0.1 0 r19).bind fun xs22 =>
  (M.spec_ReplayLog ([] : List (Int × (List Int) × Int)) xs22).bind fun r28 =>
  some r28.1)

end Go.Vs

namespace Go.Vs

end Go.Vs

namespace Go.Vs

end Go.Vs

namespace Go.Vs

end Go.Vs

namespace Go.Vs

end Go.Vs

namespace Go.Vs

end Go.Vs

namespace Go.Vs

noncomputable def M.impl_onlyKey (x_0 : Int × (List Int) × Int) : Option Bool :=
  (M.impl_validKey x_0.1).bind fun r4 =>
  (bif r4 then
  (bif (x_0.2.1.length : Int) == 0 then
  some (x_0.2.2 == 0)
 else
  some false)
 else
  some false)

noncomputable def M.impl_changeOf (e_0 : Int × (Int × (List Int) × Int)) : Option ((If2 Int ((Int × (List Int) × Int))) × Bool) :=
  Option.bind ((bif e_0.1 == 1 then
  (M.impl_validItem (e_0.2.1, e_0.2.2.1, e_0.2.2.2)).bind fun r7 =>
  some r7
 else
  some false)) fun o3 =>
  (bif o3 then
  some ((If2.mk 2 0 (e_0.2.1, e_0.2.2.1, e_0.2.2.2)), true)
 else
  Option.bind ((bif e_0.1 == 2 then
  (M.impl_onlyKey (e_0.2.1, e_0.2.2.1, e_0.2.2.2)).bind fun r18 =>
  some r18
 else
  some false)) fun o14 =>
  (bif o14 then
  some ((If2.mk 1 e_0.2.1 (0, [], 0)), true)
 else
  some ((If2.mk 0 0 (0, [], 0)), false)))

noncomputable def M.impl_changesOf (log_0 : List (Int × (Int × (List Int) × Int))) : Option ((List (If2 Int ((Int × (List Int) × Int)))) × Bool) :=
  (bif decide (32 < (log_0.length : Int)) then
  some ([], false)
 else
  (gmake (log_0.length : Int) ((If2.mk 0 0 (0, [], 0)) : If2 Int ((Int × (List Int) × Int)))).bind fun xs2 =>
  Option.bind (loopM (fun (s9 : (List (If2 Int ((Int × (List Int) × Int)))) × (Int)) => (bif decide (s9.2 < (log_0.length : Int)) then
  (gidx log_0 s9.2).bind fun x14 =>
  (M.impl_changeOf (x14.1, (x14.2.1, x14.2.2.1, x14.2.2.2))).bind fun r28 =>
  (bif !r28.2 then
  some (.inr (.inr ([], false)))
 else
  (gidx s9.1 s9.2).bind fun x35 =>
  some (.inl ((s9.1.set s9.2.toNat (If2.mk r28.1.1 r28.1.2.1 (r28.1.2.2.1, r28.1.2.2.2.1, r28.1.2.2.2.2))), w64 (s9.2 + 1))))
 else
  some (.inr (.inl s9.1)))) (xs2, 0)) (selim (fun t44 => some (t44, true))
   (fun t48 => some (t48.1, t48.2))))

noncomputable def M.impl_dropChange_applyD (c_0 : Int) (list_1 : List (Int × (List Int) × Int)) : Option ((List (Int × (List Int) × Int)) × Bool) :=
  (M.impl_DropItemD list_1 c_0).bind fun r4 =>
  some (r4.1, r4.2)

noncomputable def M.impl_putChange_applyD (c_0 : (Int × (List Int) × Int)) (list_1 : List (Int × (List Int) × Int)) : Option ((List (Int × (List Int) × Int)) × Bool) :=
  (M.impl_PutItemD list_1 (c_0.1, c_0.2.1, c_0.2.2)).bind fun r4 =>
  some (r4.1, r4.2)

noncomputable def M.impl_ReplayLogD (list_0 : List (Int × (List Int) × Int)) (log_1 : List (Int × (Int × (List Int) × Int))) : Option ((List (Int × (List Int) × Int)) × Int) :=
  (M.impl_changesOf log_1).bind fun r1 =>
  Option.bind ((bif !r1.2 then
  some true
 else
  (M.impl_ValidStore list_0).bind fun r9 =>
  some (!r9))) fun o7 =>
  (bif o7 then
  some ([], -1)
 else
  (M.impl_copyItems list_0).bind fun r17 =>
  Option.bind (loopM (fun (s27 : (List (Int × (List Int) × Int)) × (Int)) => (bif decide (s27.2 < (r1.1.length : Int)) then
  (gidx r1.1 s27.2).bind fun x34 =>
  Option.bind ((bif x34.1 == 1 then
  (M.impl_dropChange_applyD x34.2.1 s27.1).bind fun r49 =>
  some (r49.1, r49.2)
 else
  (bif x34.1 == 2 then
  (M.impl_putChange_applyD (x34.2.2.1, x34.2.2.2.1, x34.2.2.2.2) s27.1).bind fun r58 =>
  some (r58.1, r58.2)
 else
  none))) fun o45 =>
  (bif !o45.2 then
  some (.inr (.inr (s27.1, s27.2)))
 else
  some (.inl (o45.1, w64 (s27.2 + 1))))
 else
  some (.inr (.inl s27.1)))) (r17, 0)) (selim (fun t73 => some (t73, (r1.1.length : Int)))
   (fun t79 => some (t79.1, t79.2))))

end Go.Vs

namespace Go.Vs

noncomputable def M.slices_IsSorted_int_int (x_0 : List Int) : Option Bool :=
  Option.bind (loopM (fun (s2 : (Int)) => (bif decide (0 < s2) then
  (gidx x_0 s2).bind fun x5 =>
  (gidx x_0 (w64 (s2 - 1))).bind fun x11 =>
  (M.cmp_Less_int x5 x11).bind fun r19 =>
  (bif r19 then
  some (.inr (.inr false))
 else
  some (.inl (w64 (s2 - 1))))
 else
  some (.inr (.inl ())))) (w64 ((x_0.length : Int) - 1))) (selim (fun t24 => some true)
   (fun t26 => some t26))

noncomputable def M.impl_validTimes (times_0 : List Int) : Option Bool :=
  Option.bind (loopM (fun (s2 : (Int)) => (bif decide (s2 < (times_0.length : Int)) then
  (gidx times_0 s2).bind fun x5 =>
  Option.bind ((bif decide (x5 < 1) then
  some true
 else
  some (decide (1000 < x5)))) fun o11 =>
  (bif o11 then
  some (.inr (.inr false))
 else
  some (.inl (w64 (s2 + 1))))
 else
  some (.inr (.inl ())))) 0) (selim (fun t15 => (M.slices_IsSorted_int_int times_0).bind fun r17 =>
  some r17)
   (fun t21 => some t21))

noncomputable def M.impl_validMoment (t_0 : Int) : Option Bool :=
  (bif decide (0 ≤ t_0) then
  some (decide (t_0 ≤ 1000))
 else
  some false)

noncomputable def M.impl_version_node (v_0 : Vr (Int × (List Int) × Int)) : Option (((Po (Int × (List Int) × Int)) × ((Vr (Int × (List Int) × Int)) × (Vr (Int × (List Int) × Int))))) :=
  (bif v_0.isNil then
  some (Po.nil, (Vr.nil, Vr.nil))
 else
  (Vr.get v_0).bind fun x5 =>
  some (x5.1, (x5.2.1, x5.2.2)))

noncomputable def M.impl_version_with_F (rec : (Vr (Int × (List Int) × Int)) → (Int) → (Int) → (Po (Int × (List Int) × Int)) → Option ((Vr (Int × (List Int) × Int)))) (v_0 : Vr (Int × (List Int) × Int)) (key_1 : Int) (bits_2 : Int) (x_3 : Po (Int × (List Int) × Int)) : Option ((Vr (Int × (List Int) × Int))) :=
  (M.impl_version_node v_0).bind fun r1 =>
  Option.bind ((bif bits_2 == 0 then
  some (x_3, (r1.2.1, r1.2.2))
 else
  (gsh (w64 (bits_2 - 1)) (gshr .i64 key_1 (w64 (bits_2 - 1)))).bind fun q14 =>
  (gsel2 (gand q14 1) r1.2.1 r1.2.2).bind fun x16 =>
  (rec x16 key_1 (w64 (bits_2 - 1)) x_3).bind fun r21 =>
  (gsel2 (gand q14 1) r1.2.1 r1.2.2).bind fun x26 =>
  some (r1.1, ((bsel (gand q14 1) r21 r1.2.1), (bsel (gand q14 1) r1.2.2 r21))))) fun o11 =>
  some (Vr.mk (o11.1, (o11.2.1, o11.2.2)))
noncomputable def M.impl_version_with : Nat → (Vr (Int × (List Int) × Int)) → (Int) → (Int) → (Po (Int × (List Int) × Int)) → Option ((Vr (Int × (List Int) × Int)))
  | 0 => fun _ _ _ _ => none
  | fuel + 1 => M.impl_version_with_F (M.impl_version_with fuel)

noncomputable def M.impl_version_after (v_0 : Vr (Int × (List Int) × Int)) (e_1 : Int × (Int × (List Int) × Int)) : Option ((Vr (Int × (List Int) × Int))) :=
  (bif e_1.1 == 2 then
  (M.impl_version_with 100 v_0 e_1.2.1 7 (Po.nil : Po (Int × (List Int) × Int))).bind fun r6 =>
  some r6
 else
  (M.impl_version_with 100 v_0 e_1.2.1 7 (Po.to (e_1.2.1, e_1.2.2.1, e_1.2.2.2))).bind fun r15 =>
  some r15)

noncomputable def M.impl_History_versions (h_0 : (List (Int × (Int × (List Int) × Int))) × (List Int)) : Option ((List (Vr (Int × (List Int) × Int)))) :=
  Option.bind (loopM (fun (s7 : (List (Vr (Int × (List Int) × Int))) × (Int)) => (bif decide (s7.2 < (h_0.1.length : Int)) then
  (gidx h_0.1 s7.2).bind fun x12 =>
  (gidx s7.1 s7.2).bind fun x25 =>
  (M.impl_version_after x25 (x12.1, (x12.2.1, x12.2.2.1, x12.2.2.2))).bind fun r35 =>
  (gapp s7.1 ([r35] : List (Vr (Int × (List Int) × Int)))).bind fun xs41 =>
  some (.inl (xs41, w64 (s7.2 + 1)))
 else
  some (.inr s7.1))) (([Vr.nil] : List (Vr (Int × (List Int) × Int))), 0)) fun o6 =>
  some o6

noncomputable def M.slices_isNaN_int (x_0 : Int) : Option Bool :=
  some (x_0 != x_0)

noncomputable def M.slices_BinarySearch_int_int (x_0 : List Int) (target_1 : Int) : Option (Int × Bool) :=
  Option.bind (loopM (fun (s2 : (Int) × (Int)) => (bif decide (s2.1 < s2.2) then
  (gidx x_0 (wk .i64 (gshr .u64 (wk .u64 (w64 (s2.1 + s2.2))) 1))).bind fun x5 =>
  (M.cmp_Less_int x5 target_1).bind fun r11 =>
  (bif r11 then
  some (.inl (w64 ((wk .i64 (gshr .u64 (wk .u64 (w64 (s2.1 + s2.2))) 1)) + 1), s2.2))
 else
  some (.inl (s2.1, wk .i64 (gshr .u64 (wk .u64 (w64 (s2.1 + s2.2))) 1))))
 else
  some (.inr s2.1))) (0, (x_0.length : Int))) fun o1 =>
  (bif decide (o1 < (x_0.length : Int)) then
  (gidx x_0 o1).bind fun x18 =>
  (bif x18 == target_1 then
  some (o1, true)
 else
  (gidx x_0 o1).bind fun x25 =>
  (M.slices_isNaN_int x25).bind fun r31 =>
  (bif r31 then
  (M.slices_isNaN_int target_1).bind fun r36 =>
  some (o1, r36)
 else
  some (o1, false)))
 else
  some (o1, false))

noncomputable def M.impl_History_entriesUntil (h_0 : (List (Int × (Int × (List Int) × Int))) × (List Int)) (t_1 : Int) : Option Int :=
  (M.slices_BinarySearch_int_int h_0.2 (w64 (t_1 + 1))).bind fun r4 =>
  some r4.1

noncomputable def M.laws_szHistory (a_0 : (List (Int × (Int × (List Int) × Int))) × (List Int)) (left_1 : Int) : Option Int :=
  (M.laws_szEntryS a_0.1 left_1).bind fun r4 =>
  (bif decide (r4 < 0) then
  some (-1)
 else
  (M.laws_szIntS a_0.2 r4).bind fun r10 =>
  (bif decide (r10 < 0) then
  some (-1)
 else
  some r10))

noncomputable def M.laws_toHistoryD (a_0 : (List (Int × (Int × (List Int) × Int))) × (List Int)) : Option (((List (Int × (Int × (List Int) × Int))) × (List Int))) :=
  (M.dEntS a_0.1).bind fun r8 =>
  (M.laws_toIntS a_0.2).bind fun r18 =>
  some (r8, r18)

noncomputable def M.laws_eqHistory (a_0 : (List (Int × (Int × (List Int) × Int))) × (List Int)) (b_1 : (List (Int × (Int × (List Int) × Int))) × (List Int)) : Option Bool :=
  (M.laws_eqEntryS a_0.1 b_1.1).bind fun r7 =>
  (bif !r7 then
  some false
 else
  (M.laws_eqIntS a_0.2 b_1.2).bind fun r14 =>
  (bif !r14 then
  some false
 else
  some true))

noncomputable def M.impl_ValidHistoryD (h_0 : (List (Int × (Int × (List Int) × Int))) × (List Int)) : Option Bool :=
  Option.bind ((bif (h_0.2.length : Int) != (h_0.1.length : Int) then
  some true
 else
  (M.impl_validTimes h_0.2).bind fun r8 =>
  some (!r8))) fun o3 =>
  (bif o3 then
  some false
 else
  (M.impl_ReplayLogD ([] : List (Int × (List Int) × Int)) h_0.1).bind fun r15 =>
  some (r15.2 == (h_0.1.length : Int)))

noncomputable def M.laws_markHistory (a_0 : (List (Int × (Int × (List Int) × Int))) × (List Int)) (k_1 : Int) : Option (Int × (List Int)) :=
  (M.markEntD a_0.1 k_1).bind fun r4 =>
  (M.laws_markIntS a_0.2 r4).bind fun r9 =>
  some (r9.1, r9.2)

noncomputable def M.impl_version_appendToD_F (rec : (Vr (Int × (List Int) × Int)) → (List (Int × (List Int) × Int)) → Option ((List (Int × (List Int) × Int)))) (v_0 : Vr (Int × (List Int) × Int)) (list_1 : List (Int × (List Int) × Int)) : Option ((List (Int × (List Int) × Int))) :=
  (bif v_0.isNil then
  some list_1
 else
  (Vr.get v_0).bind fun x4 =>
  (bif !x4.1.isNil then
  (Vr.get v_0).bind fun x14 =>
  (Po.get x14.1).bind fun x23 =>
  (M.impl_copyItem (x23.1, x23.2.1, x23.2.2)).bind fun r33 =>
  (gapp list_1 ([(r33.1, r33.2.1, r33.2.2)] : List (Int × (List Int) × Int))).bind fun xs45 =>
  some xs45
 else
  (Vr.get v_0).bind fun x52 =>
  (Vr.get v_0).bind fun x61 =>
  (rec x61.2.1 list_1).bind fun r70 =>
  (rec x52.2.2 r70).bind fun r78 =>
  some r78))
noncomputable def M.impl_version_appendToD : Nat → (Vr (Int × (List Int) × Int)) → (List (Int × (List Int) × Int)) → Option ((List (Int × (List Int) × Int)))
  | 0 => fun _ _ => none
  | fuel + 1 => M.impl_version_appendToD_F (M.impl_version_appendToD fuel)

noncomputable def M.impl_StoreAtD (h_0 : (List (Int × (Int × (List Int) × Int))) × (List Int)) (t_1 : Int) : Option ((List (Int × (List Int) × Int))) :=
  Option.bind ((M.impl_ValidHistoryD (h_0.1, h_0.2)).bind fun r5 =>
  (bif !r5 then
  some true
 else
  (M.impl_validMoment t_1).bind fun r10 =>
  some (!r10))) fun o3 =>
  (bif o3 then
  some []
 else
  (M.impl_History_versions (h_0.1, h_0.2)).bind fun r19 =>
  (M.impl_History_entriesUntil (h_0.1, h_0.2) t_1).bind fun r26 =>
  (gidx r19 r26).bind fun x30 =>
  (M.impl_version_appendToD 100 x30 ([] : List (Int × (List Int) × Int))).bind fun r41 =>
  some r41)

noncomputable def M.laws_FnExactStoreAt (aH_0 : (List (Int × (Int × (List Int) × Int))) × (List Int)) (aT_1 : Int) : Option Bool :=
  (M.laws_szHistory (aH_0.1, aH_0.2) 1048576).bind fun r4 =>
  (bif decide (r4 < 0) then
  some true
 else
  (M.laws_toHistoryD (aH_0.1, aH_0.2)).bind fun r10 =>
  (M.spec_StoreAt (r10.1, r10.2) aT_1).bind fun r23 =>
  (M.laws_toHistoryD (aH_0.1, aH_0.2)).bind fun r30 =>
  (M.impl_StoreAtD (r30.1, r30.2) aT_1).bind fun r45 =>
  (M.laws_eqItemS r45 r23).bind fun r53 =>
  (bif !r53 then
  some false
 else
  (M.laws_toHistoryD (aH_0.1, aH_0.2)).bind fun r60 =>
  (M.laws_eqHistory (r30.1, r30.2) (r60.1, r60.2)).bind fun r73 =>
  (bif !r73 then
  some false
 else
  (M.laws_markHistory (r30.1, r30.2) 1).bind fun r79 =>
  Option.bind ((bif decide (r79.1 < 0) then
  some true
 else
  (M.laws_eqItemS r45 r23).bind fun r86 =>
  some (!r86))) fun o84 =>
  (bif o84 then
  some false
 else
  (M.markItemB r45 1).bind fun r92 =>
  (M.laws_heldItemS r92.2 1).bind fun r97 =>
  (bif decide (r97 < 0) then
  some false
 else
  (bif r97 != r92.1 then
  some false
 else
  (M.laws_toHistoryD (aH_0.1, aH_0.2)).bind fun r104 =>
  (M.impl_StoreAtD (r104.1, r104.2) aT_1).bind fun r117 =>
  (M.laws_eqItemS r117 r23).bind fun r127 =>
  (bif !r127 then
  some false
 else
  (M.laws_heldItemS r92.2 1).bind fun r132 =>
  (bif decide (r132 < 0) then
  some false
 else
  (bif r132 != r92.1 then
  some false
 else
  some true)))))))))

end Go.Vs
