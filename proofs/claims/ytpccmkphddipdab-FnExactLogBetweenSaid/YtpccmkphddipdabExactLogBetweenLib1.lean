/- What the functions compute. -/
import Derived.Test.YtpccmkphddipdabExactLogBetweenEng1
import Derived.Test.YtpccmkphddipdabExactLogBetweenEng2
set_option linter.unusedVariables false
set_option linter.unusedSimpArgs false
namespace Go.Vs

noncomputable def M.spec_copyInts (list_0 : List Int) : Option ((List Int)) :=
  (gapp ([] : List Int) list_0).bind fun xs6 =>
  some xs6

noncomputable def M.impl_validCoords (coords_0 : List Int) : Option Bool :=
  Option.bind (loopM (fun (s2 : (Int)) => (bif decide (s2 < (coords_0.length : Int)) then
  (gidx coords_0 s2).bind fun x5 =>
  Option.bind ((bif decide (x5 < (-100)) then
  some true
 else
  some (decide (100 < x5)))) fun o11 =>
  (bif o11 then
  some (.inr (.inr false))
 else
  some (.inl (w64 (s2 + 1))))
 else
  some (.inr (.inl ())))) 0) (selim (fun t15 => some true)
   (fun t17 => some t17))

noncomputable def M.impl_ValidVector (v_0 : List Int) : Option Bool :=
  (bif (v_0.length : Int) == 4 then
  (M.impl_validCoords v_0).bind fun r2 =>
  some r2
 else
  some false)

noncomputable def M.spec_inRange (n_0 : Int) (low_1 : Int) (high_2 : Int) : Option Bool :=
  (bif decide (low_1 ≤ n_0) then
  some (decide (n_0 ≤ high_2))
 else
  some false)

noncomputable def M.spec_allIn (list_0 : List Int) (low_1 : Int) (high_2 : Int) : Option Bool :=
  Option.bind (loopM (fun (s2 : (Int)) => (bif decide (s2 < (list_0.length : Int)) then
  (gidx list_0 s2).bind fun x7 =>
  (M.spec_inRange x7 low_1 high_2).bind fun r12 =>
  (bif !r12 then
  some (.inr (.inr false))
 else
  some (.inl (w64 (s2 + 1))))
 else
  some (.inr (.inl ())))) 0) (selim (fun t17 => some true)
   (fun t19 => some t19))

noncomputable def M.spec_isVector (v_0 : List Int) : Option Bool :=
  (bif (v_0.length : Int) == 4 then
  (M.spec_allIn v_0 (-100) 100).bind fun r2 =>
  some r2
 else
  some false)

noncomputable def M.spec_size (n_0 : Int) : Option Int :=
  some (max n_0 (w64 (0 - n_0)))

noncomputable def M.spec_toInt (b_0 : Bool) : Option Int :=
  (bif b_0 then
  some 1
 else
  some 0)

noncomputable def M.spec_dist (kind_0 : Int) (a_1 : List Int) (b_2 : List Int) : Option Int :=
  Option.bind (loopM (fun (s2 : (Int) × (Int)) => (bif decide (s2.2 < (a_1.length : Int)) then
  Option.bind ((gidx a_1 s2.2).bind fun x9 =>
  (gidx b_2 s2.2).bind fun x14 =>
  (M.spec_size (w64 (x9 - x14))).bind fun r20 =>
  (bif kind_0 == 1 then
  some (w64 (s2.1 + r20))
 else
  (bif kind_0 == 2 then
  some (max s2.1 r20)
 else
  (bif kind_0 == 3 then
  some (w64 (s2.1 + (w64 (r20 * r20))))
 else
  (M.spec_toInt (decide (0 < r20))).bind fun r27 =>
  some (w64 (s2.1 + r27)))))) fun o8 =>
  some (.inl (o8, w64 (s2.2 + 1)))
 else
  some (.inr s2.1))) (0, 0)) fun o1 =>
  some o1

noncomputable def M.laws_equalInts (a_0 : List Int) (b_1 : List Int) : Option Bool :=
  (bif (a_0.length : Int) != (b_1.length : Int) then
  some false
 else
  Option.bind (loopM (fun (s3 : (Int)) => (bif decide (s3 < (a_0.length : Int)) then
  (gidx a_0 s3).bind fun x9 =>
  (gidx b_1 s3).bind fun x14 =>
  (bif x9 != x14 then
  some (.inr (.inr false))
 else
  some (.inl (w64 (s3 + 1))))
 else
  some (.inr (.inl ())))) 0) (selim (fun t21 => some true)
   (fun t23 => some t23)))

noncomputable def M.spec_validItem (x_0 : Int × (List Int) × Int) : Option Bool :=
  (M.spec_inRange x_0.1 1 99).bind fun r7 =>
  (bif r7 then
  (M.spec_isVector x_0.2.1).bind fun r13 =>
  (bif r13 then
  (M.spec_inRange x_0.2.2 0 15).bind fun r19 =>
  some r19
 else
  some false)
 else
  some false)

noncomputable def M.spec_validStore (list_0 : List (Int × (List Int) × Int)) : Option Bool :=
  Option.bind (loopM (fun (s2 : (Int)) => (bif decide (s2 < (list_0.length : Int)) then
  Option.bind ((gidx list_0 s2).bind fun x8 =>
  (M.spec_validItem (x8.1, x8.2.1, x8.2.2)).bind fun r19 =>
  (bif !r19 then
  some true
 else
  (bif decide (0 < s2) then
  (gidx list_0 s2).bind fun x24 =>
  (gidx list_0 (w64 (s2 - 1))).bind fun x29 =>
  some (decide (x24.1 ≤ x29.1))
 else
  some false))) fun o7 =>
  (bif o7 then
  some (.inr (.inr false))
 else
  some (.inl (w64 (s2 + 1))))
 else
  some (.inr (.inl ())))) 0) (selim (fun t39 => some (decide ((list_0.length : Int) ≤ 16)))
   (fun t42 => some t42))

noncomputable def M.spec_copyItem (x_0 : Int × (List Int) × Int) : Option ((Int × (List Int) × Int)) :=
  (M.spec_copyInts x_0.2.1).bind fun r14 =>
  some (x_0.1, r14, x_0.2.2)

noncomputable def M.impl_validKey (key_0 : Int) : Option Bool :=
  (bif decide (1 ≤ key_0) then
  some (decide (key_0 ≤ 99))
 else
  some false)

noncomputable def M.impl_validTags (tags_0 : Int) : Option Bool :=
  (bif decide (0 ≤ tags_0) then
  some (decide (tags_0 ≤ 15))
 else
  some false)

noncomputable def M.impl_validItem (x_0 : Int × (List Int) × Int) : Option Bool :=
  (M.impl_validKey x_0.1).bind fun r4 =>
  (bif r4 then
  (M.impl_ValidVector x_0.2.1).bind fun r10 =>
  (bif r10 then
  (M.impl_validTags x_0.2.2).bind fun r16 =>
  some r16
 else
  some false)
 else
  some false)

noncomputable def M.impl_ValidStore (list_0 : List (Int × (List Int) × Int)) : Option Bool :=
  (bif decide (16 < (list_0.length : Int)) then
  some false
 else
  Option.bind (loopM (fun (s3 : (Int) × (Int)) => (bif decide (s3.2 < (list_0.length : Int)) then
  (gidx list_0 s3.2).bind fun x8 =>
  Option.bind ((M.impl_validItem (x8.1, x8.2.1, x8.2.2)).bind fun r30 =>
  (bif !r30 then
  some true
 else
  some (decide (x8.1 ≤ s3.1)))) fun o29 =>
  (bif o29 then
  some (.inr (.inr false))
 else
  some (.inl (x8.1, w64 (s3.2 + 1))))
 else
  some (.inr (.inl ())))) (0, 0)) (selim (fun t41 => some true)
   (fun t43 => some t43)))

noncomputable def M.cmp_isNaN_int (x_0 : Int) : Option Bool :=
  some (x_0 != x_0)

noncomputable def M.cmp_Compare_int (x_0 : Int) (y_1 : Int) : Option Int :=
  (M.cmp_isNaN_int x_0).bind fun r1 =>
  (M.cmp_isNaN_int y_1).bind fun r5 =>
  (bif r1 then
  (bif r5 then
  some 0
 else
  some (-1))
 else
  (bif r5 then
  some 1
 else
  (bif decide (x_0 < y_1) then
  some (-1)
 else
  (bif decide (y_1 < x_0) then
  some 1
 else
  some 0))))

noncomputable def M.impl_placeOf_1 (x_0 : Int × (List Int) × Int) (key_1 : Int) : Option Int :=
  (M.cmp_Compare_int x_0.1 key_1).bind fun r7 =>
  some r7

end Go.Vs

namespace Go.Vs

noncomputable def M.spec_keyAt (list_0 : List (Int × (List Int) × Int)) (key_1 : Int) : Option Int :=
  Option.bind (loopM (fun (s2 : (Int)) => (bif decide (s2 < (list_0.length : Int)) then
  (gidx list_0 s2).bind fun x7 =>
  (bif x7.1 == key_1 then
  some (.inr (.inr s2))
 else
  some (.inl (w64 (s2 + 1))))
 else
  some (.inr (.inl ())))) 0) (selim (fun t13 => some (-1))
   (fun t15 => some t15))

end Go.Vs

namespace Go.Vs

noncomputable def M.laws_toIntS (a_0 : List Int) : Option ((List Int)) :=
  (gmake (a_0.length : Int) (0 : Int)).bind fun xs1 =>
  Option.bind (loopM (fun (s10 : (List Int) × (Int)) => (bif decide (s10.2 < (a_0.length : Int)) then
  (gidx a_0 s10.2).bind fun x18 =>
  (gidx s10.1 s10.2).bind fun x23 =>
  some (.inl ((s10.1.set s10.2.toNat x18), w64 (s10.2 + 1)))
 else
  some (.inr s10.1))) (xs1, 0)) fun o9 =>
  some o9

noncomputable def M.laws_eqIntS (a_0 : List Int) (b_1 : List Int) : Option Bool :=
  (bif (a_0.length : Int) != (b_1.length : Int) then
  some false
 else
  Option.bind (loopM (fun (s3 : (Int)) => (bif decide (s3 < (a_0.length : Int)) then
  (gidx a_0 s3).bind fun x9 =>
  (gidx b_1 s3).bind fun x14 =>
  (bif x9 != x14 then
  some (.inr (.inr false))
 else
  some (.inl (w64 (s3 + 1))))
 else
  some (.inr (.inl ())))) 0) (selim (fun t21 => some true)
   (fun t23 => some t23)))

noncomputable def M.laws_szIntS (a_0 : List Int) (left_1 : Int) : Option Int :=
  (bif decide ((w64 (left_1 - (a_0.length : Int))) < 0) then
  some (-1)
 else
  some (w64 (left_1 - (a_0.length : Int))))

noncomputable def M.laws_heldIntS (a_0 : List Int) (k_1 : Int) : Option Int :=
  Option.bind (loopM (fun (s2 : (Int) × (Int)) => (bif decide (s2.2 < (a_0.length : Int)) then
  (gidx a_0 s2.2).bind fun x7 =>
  (bif x7 != s2.1 then
  some (.inr (.inr (-1)))
 else
  some (.inl (w64 (s2.1 + 1), w64 (s2.2 + 1))))
 else
  some (.inr (.inl s2.1)))) (k_1, 0)) (selim (fun t13 => some t13)
   (fun t15 => some t15))

noncomputable def M.laws_szItem (a_0 : Int × (List Int) × Int) (left_1 : Int) : Option Int :=
  (M.laws_szIntS a_0.2.1 left_1).bind fun r7 =>
  (bif decide (r7 < 0) then
  some (-1)
 else
  some r7)

noncomputable def M.laws_szItemS (a_0 : List (Int × (List Int) × Int)) (left_1 : Int) : Option Int :=
  (bif decide ((w64 (left_1 - (a_0.length : Int))) < 0) then
  some (-1)
 else
  Option.bind (loopM (fun (s3 : (Int) × (Int)) => (bif decide (s3.2 < (a_0.length : Int)) then
  (gidx a_0 s3.2).bind fun x8 =>
  (M.laws_szItem (x8.1, x8.2.1, x8.2.2) s3.1).bind fun r19 =>
  (bif decide (r19 < 0) then
  some (.inr (.inr (-1)))
 else
  some (.inl (r19, w64 (s3.2 + 1))))
 else
  some (.inr (.inl s3.1)))) (w64 (left_1 - (a_0.length : Int)), 0)) (selim (fun t24 => some t24)
   (fun t26 => some t26)))

noncomputable def M.laws_toItem (a_0 : Int × (List Int) × Int) : Option ((Int × (List Int) × Int)) :=
  (M.laws_toIntS a_0.2.1).bind fun r26 =>
  some (a_0.1, r26, a_0.2.2)

noncomputable def M.laws_eqItem (a_0 : Int × (List Int) × Int) (b_1 : Int × (List Int) × Int) : Option Bool :=
  (bif a_0.1 != b_1.1 then
  some false
 else
  (M.laws_eqIntS a_0.2.1 b_1.2.1).bind fun r15 =>
  (bif !r15 then
  some false
 else
  (bif a_0.2.2 != b_1.2.2 then
  some false
 else
  some true)))

noncomputable def M.laws_eqItemS (a_0 : List (Int × (List Int) × Int)) (b_1 : List (Int × (List Int) × Int)) : Option Bool :=
  (bif (a_0.length : Int) != (b_1.length : Int) then
  some false
 else
  Option.bind (loopM (fun (s3 : (Int)) => (bif decide (s3 < (a_0.length : Int)) then
  (gidx a_0 s3).bind fun x9 =>
  (gidx b_1 s3).bind fun x20 =>
  (M.laws_eqItem (x9.1, x9.2.1, x9.2.2) (x20.1, x20.2.1, x20.2.2)).bind fun r32 =>
  (bif !r32 then
  some (.inr (.inr false))
 else
  some (.inl (w64 (s3 + 1))))
 else
  some (.inr (.inl ())))) 0) (selim (fun t37 => some true)
   (fun t39 => some t39)))

end Go.Vs

namespace Go.Vs

end Go.Vs

namespace Go.Vs

end Go.Vs

namespace Go.Vs

noncomputable def M.slices_BinarySearchFunc_impl_Item_impl_Item_int__impl_placeOf_1 (x_0 : List (Int × (List Int) × Int)) (target_1 : Int) : Option (Int × Bool) :=
  Option.bind (loopM (fun (s2 : (Int) × (Int)) => (bif decide (s2.1 < s2.2) then
  (gidx x_0 (wk .i64 (gshr .u64 (wk .u64 (w64 (s2.1 + s2.2))) 1))).bind fun x5 =>
  (M.impl_placeOf_1 (x5.1, x5.2.1, x5.2.2) target_1).bind fun r15 =>
  (bif decide (r15 < 0) then
  some (.inl (w64 ((wk .i64 (gshr .u64 (wk .u64 (w64 (s2.1 + s2.2))) 1)) + 1), s2.2))
 else
  some (.inl (s2.1, wk .i64 (gshr .u64 (wk .u64 (w64 (s2.1 + s2.2))) 1))))
 else
  some (.inr s2.1))) (0, (x_0.length : Int))) fun o1 =>
  (bif decide (o1 < (x_0.length : Int)) then
  (gidx x_0 o1).bind fun x22 =>
  (M.impl_placeOf_1 (x22.1, x22.2.1, x22.2.2) target_1).bind fun r32 =>
  some (o1, r32 == 0)
 else
  some (o1, false))

noncomputable def M.impl_placeOf (list_0 : List (Int × (List Int) × Int)) (key_1 : Int) : Option (Int × Bool) :=
  (M.slices_BinarySearchFunc_impl_Item_impl_Item_int__impl_placeOf_1 list_0 key_1).bind fun r1 =>
  some (r1.1, r1.2)

noncomputable def M.slices_Clone_int_int (s_0 : List Int) : Option ((List Int)) :=
  (gapp ([] : List Int) s_0).bind fun xs4 =>
  some xs4

noncomputable def M.impl_copyItem (x_0 : Int × (List Int) × Int) : Option ((Int × (List Int) × Int)) :=
  (M.slices_Clone_int_int x_0.2.1).bind fun r7 =>
  some (x_0.1, r7, x_0.2.2)

end Go.Vs

namespace Go.Vs

end Go.Vs

namespace Go.Vs

noncomputable def M.laws_markIntS (a_0 : List Int) (k_1 : Int) : Option (Int × (List Int)) :=
  Option.bind (loopM (fun (s2 : (List Int) × (Int) × (Int)) => (bif decide (s2.2.2 < (s2.1.length : Int)) then
  (gidx s2.1 s2.2.2).bind fun x6 =>
  some (.inl ((s2.1.set s2.2.2.toNat s2.2.1), w64 (s2.2.1 + 1), w64 (s2.2.2 + 1)))
 else
  some (.inr (s2.1, s2.2.1)))) (a_0, k_1, 0)) fun o1 =>
  some (o1.2, o1.1)

end Go.Vs

namespace Go.Vs

end Go.Vs

namespace Go.Vs

end Go.Vs

namespace Go.Vs

end Go.Vs

namespace Go.Vs

open Classical in
noncomputable def M.dItemS (a : List (Int × (List Int) × Int)) : Option (List (Int × (List Int) × Int)) :=
  if a.length ≤ 2147483648 ∧ ∀ x ∈ a, M.laws_toIntS x.2.1 = some x.2.1 then some a else none

noncomputable def M.dmarkItemS : List (Int × (List Int) × Int) → Int → Option Int
  | [], k => some k
  | x :: xs, k => (M.laws_markIntS x.2.1 (w64 (k + 1))).bind fun q => M.dmarkItemS xs (w64 (q.1 + 1))

noncomputable def M.markItemD (a : List (Int × (List Int) × Int)) (k : Int) : Option Int := if a.length ≤ 2147483648 then M.dmarkItemS a k else none

theorem markItemD_some {a : List (Int × (List Int) × Int)} {k r : Int} (h : M.markItemD a k = some r) : a.length ≤ 2147483648 ∧ M.dmarkItemS a k = some r := by
  unfold M.markItemD at h; split at h
  · exact ⟨by assumption, h⟩
  · cases h
theorem dItemS_some {a r : List (Int × (List Int) × Int)} (h : M.dItemS a = some r) : a.length ≤ 2147483648 ∧ (∀ x ∈ a, M.laws_toItem x = some x) ∧ r = a := by
  unfold M.dItemS at h
  split at h
  · rename_i hc
    refine ⟨hc.1, fun x hx => ?_, (Option.some.inj h).symm⟩
    unfold M.laws_toItem
    rw [hc.2 x hx]; rfl
  · cases h
theorem gmake_nat {α : Type} (n : Nat) (z : α) (h : n ≤ 2147483648) : gmake (n : Int) z = some (List.replicate n z) := by
  unfold gmake
  rw [if_pos (by omega)]; simp
end Go.Vs

namespace Go.Vs

end Go.Vs

namespace Go.Vs

end Go.Vs

namespace Go.Vs

end Go.Vs

namespace Go.Vs

noncomputable def M.slices_Equal_int_int (s1_0 : List Int) (s2_1 : List Int) : Option Bool :=
  (bif (s1_0.length : Int) != (s2_1.length : Int) then
  some false
 else
  Option.bind (loopM (fun (s3 : (Int)) => (bif decide (s3 < (s1_0.length : Int)) then
  (gidx s1_0 s3).bind fun x6 =>
  (gidx s2_1 s3).bind fun x12 =>
  (bif x6 != x12 then
  some (.inr (.inr false))
 else
  some (.inl (w64 (s3 + 1))))
 else
  some (.inr (.inl ())))) 0) (selim (fun t21 => some true)
   (fun t23 => some t23)))

end Go.Vs

namespace Go.Vs

end Go.Vs

namespace Go.Vs

theorem gidx_mid {β : Type} {A B : List β} {e : β} {i : Nat} (h : A.length = i) : gidx (A ++ e :: B) (i : Int) = some e := by
  subst h
  unfold gidx
  rw [if_pos (by omega)]
  simp
theorem set_mid {β : Type} {A B : List β} {e e' : β} {i : Nat} (h : A.length = i) : (A ++ e :: B).set i e' = A ++ e' :: B := by
  subst h
  rw [List.set_append_right _ _ (Nat.le_refl _), Nat.sub_self, List.set_cons_zero]

end Go.Vs

namespace Go.Vs

end Go.Vs

namespace Go.Vs

end Go.Vs

namespace Go.Vs

end Go.Vs

namespace Go.Vs

end Go.Vs

namespace Go.Vs

end Go.Vs

namespace Go.Vs

end Go.Vs

namespace Go.Vs

noncomputable def M.spec_sameItem (a_0 : Int × (List Int) × Int) (b_1 : Int × (List Int) × Int) : Option Bool :=
  (bif a_0.1 == b_1.1 then
  (bif a_0.2.2 == b_1.2.2 then
  (M.spec_dist 4 a_0.2.1 b_1.2.1).bind fun r13 =>
  some (r13 == 0)
 else
  some false)
 else
  some false)

noncomputable def M.spec_LogBetween (a_0 : List (Int × (List Int) × Int)) (b_1 : List (Int × (List Int) × Int)) : Option ((List (Int × (Int × (List Int) × Int)))) :=
  Option.bind ((M.spec_validStore a_0).bind fun r4 =>
  (bif !r4 then
  some true
 else
  (M.spec_validStore b_1).bind fun r9 =>
  some (!r9))) fun o3 =>
  (bif o3 then
  some []
 else
  Option.bind (loopM (fun (s16 : (List (Int × (Int × (List Int) × Int))) × (Int)) => (bif decide (s16.2 < (a_0.length : Int)) then
  Option.bind ((gidx a_0 s16.2).bind fun x22 =>
  (M.spec_keyAt b_1 x22.1).bind fun r28 =>
  (bif decide (r28 < 0) then
  (gidx a_0 s16.2).bind fun x33 =>
  (gapp s16.1 ([(2, (x33.1, ([] : List Int), 0))] : List (Int × (Int × (List Int) × Int)))).bind fun xs45 =>
  some xs45
 else
  some s16.1)) fun o21 =>
  some (.inl (o21, w64 (s16.2 + 1)))
 else
  some (.inr s16.1))) (([] : List (Int × (Int × (List Int) × Int))), 0)) fun o15 =>
  Option.bind (loopM (fun (s57 : (List (Int × (Int × (List Int) × Int))) × (Int)) => (bif decide (s57.2 < (b_1.length : Int)) then
  Option.bind ((gidx b_1 s57.2).bind fun x63 =>
  (M.spec_keyAt a_0 x63.1).bind fun r69 =>
  Option.bind ((bif decide (r69 < 0) then
  some true
 else
  (gidx a_0 r69).bind fun x77 =>
  (gidx b_1 s57.2).bind fun x87 =>
  (M.spec_sameItem (x77.1, x77.2.1, x77.2.2) (x87.1, x87.2.1, x87.2.2)).bind fun r99 =>
  some (!r99))) fun o73 =>
  (bif o73 then
  (gidx b_1 s57.2).bind fun x105 =>
  (M.spec_copyItem (x105.1, x105.2.1, x105.2.2)).bind fun r115 =>
  (gapp s57.1 ([(1, (r115.1, r115.2.1, r115.2.2))] : List (Int × (Int × (List Int) × Int)))).bind fun xs125 =>
  some xs125
 else
  some s57.1)) fun o62 =>
  some (.inl (o62, w64 (s57.2 + 1)))
 else
  some (.inr s57.1))) (o15, 0)) fun o56 =>
  some o56)

noncomputable def M.laws_eqEntry (a_0 : Int × (Int × (List Int) × Int)) (b_1 : Int × (Int × (List Int) × Int)) : Option Bool :=
  (bif a_0.1 != b_1.1 then
  some false
 else
  (M.laws_eqItem (a_0.2.1, a_0.2.2.1, a_0.2.2.2) (b_1.2.1, b_1.2.2.1, b_1.2.2.2)).bind fun r10 =>
  (bif !r10 then
  some false
 else
  some true))

noncomputable def M.laws_eqEntryS (a_0 : List (Int × (Int × (List Int) × Int))) (b_1 : List (Int × (Int × (List Int) × Int))) : Option Bool :=
  (bif (a_0.length : Int) != (b_1.length : Int) then
  some false
 else
  Option.bind (loopM (fun (s3 : (Int)) => (bif decide (s3 < (a_0.length : Int)) then
  (gidx a_0 s3).bind fun x6 =>
  (gidx b_1 s3).bind fun x16 =>
  (M.laws_eqEntry (x6.1, (x6.2.1, x6.2.2.1, x6.2.2.2)) (x16.1, (x16.2.1, x16.2.2.1, x16.2.2.2))).bind fun r28 =>
  (bif !r28 then
  some (.inr (.inr false))
 else
  some (.inl (w64 (s3 + 1))))
 else
  some (.inr (.inl ())))) 0) (selim (fun t33 => some true)
   (fun t35 => some t35)))

noncomputable def M.laws_heldEntryS (a_0 : List (Int × (Int × (List Int) × Int))) (k_1 : Int) : Option Int :=
  Option.bind (loopM (fun (s2 : (Int) × (Int)) => (bif decide (s2.2 < (a_0.length : Int)) then
  (gidx a_0 s2.2).bind fun x5 =>
  (bif x5.1 != s2.1 then
  some (.inr (.inr (-1)))
 else
  (gidx a_0 s2.2).bind fun x12 =>
  (bif x12.2.1 != (w64 (s2.1 + 1)) then
  some (.inr (.inr (-1)))
 else
  (gidx a_0 s2.2).bind fun x19 =>
  (M.laws_heldIntS x19.2.2.1 (w64 ((w64 (s2.1 + 1)) + 1))).bind fun r29 =>
  (bif decide (r29 < 0) then
  some (.inr (.inr (-1)))
 else
  (gidx a_0 s2.2).bind fun x34 =>
  (bif x34.2.2.2 != r29 then
  some (.inr (.inr (-1)))
 else
  some (.inl (w64 (r29 + 1), w64 (s2.2 + 1)))))))
 else
  some (.inr (.inl s2.1)))) (k_1, 0)) (selim (fun t41 => some t41)
   (fun t43 => some t43))

end Go.Vs

namespace Go.Vs

end Go.Vs

namespace Go.Vs

noncomputable def M.dmarkEntSB : List (Int × (Int × (List Int) × Int)) → Int → Option (Int × List (Int × (Int × (List Int) × Int)))
  | [], k => some (k, [])
  | x :: xs, k => (M.laws_markIntS x.2.2.1 (w64 (w64 (k + 1) + 1))).bind fun q => (M.dmarkEntSB xs (w64 (q.1 + 1))).bind fun t => some (t.1, (k, (w64 (k + 1), q.2, q.1)) :: t.2)

noncomputable def M.markEntB (a : List (Int × (Int × (List Int) × Int))) (k : Int) : Option (Int × List (Int × (Int × (List Int) × Int))) := if a.length ≤ 2147483648 then M.dmarkEntSB a k else none

theorem markEntB_some {a : List (Int × (Int × (List Int) × Int))} {k : Int} {r : Int × List (Int × (Int × (List Int) × Int))} (h : M.markEntB a k = some r) : a.length ≤ 2147483648 ∧ M.dmarkEntSB a k = some r := by
  unfold M.markEntB at h; split at h
  · exact ⟨by assumption, h⟩
  · cases h
end Go.Vs

namespace Go.Vs

end Go.Vs

namespace Go.Vs

end Go.Vs

namespace Go.Vs

end Go.Vs

namespace Go.Vs

end Go.Vs

namespace Go.Vs

end Go.Vs

namespace Go.Vs

end Go.Vs

namespace Go.Vs

noncomputable def M.impl_dropChange_entry (c_0 : Int) : Option ((Int × (Int × (List Int) × Int))) :=
  some (2, (c_0, [], 0))

noncomputable def M.impl_equalItems (a_0 : Int × (List Int) × Int) (b_1 : Int × (List Int) × Int) : Option Bool :=
  (bif a_0.1 == b_1.1 then
  (bif a_0.2.2 == b_1.2.2 then
  (M.slices_Equal_int_int a_0.2.1 b_1.2.1).bind fun r13 =>
  some r13
 else
  some false)
 else
  some false)

noncomputable def M.impl_hasItem_1__p_impl_Item (y_0 : Int × (List Int) × Int) (p_1 : Int × (List Int) × Int) : Option Bool :=
  (M.impl_equalItems (p_1.1, p_1.2.1, p_1.2.2) (y_0.1, y_0.2.1, y_0.2.2)).bind fun r5 =>
  some r5

noncomputable def M.slices_IndexFunc_impl_Item_impl_Item__impl_hasItem_1 (s_0 : List (Int × (List Int) × Int)) (f_1_0 : Int × (List Int) × Int) : Option Int :=
  Option.bind (loopM (fun (s2 : (Int)) => (bif decide (s2 < (s_0.length : Int)) then
  (gidx s_0 s2).bind fun x5 =>
  (M.impl_hasItem_1__p_impl_Item (x5.1, x5.2.1, x5.2.2) (f_1_0.1, f_1_0.2.1, f_1_0.2.2)).bind fun r15 =>
  (bif r15 then
  some (.inr (.inr s2))
 else
  some (.inl (w64 (s2 + 1))))
 else
  some (.inr (.inl ())))) 0) (selim (fun t20 => some (-1))
   (fun t22 => some t22))

noncomputable def M.slices_ContainsFunc_impl_Item_impl_Item__impl_hasItem_1 (s_0 : List (Int × (List Int) × Int)) (f_1_0 : Int × (List Int) × Int) : Option Bool :=
  (M.slices_IndexFunc_impl_Item_impl_Item__impl_hasItem_1 s_0 (f_1_0.1, f_1_0.2.1, f_1_0.2.2)).bind fun r1 =>
  some (decide (0 ≤ r1))

noncomputable def M.impl_hasItem (list_0 : List (Int × (List Int) × Int)) (x_1 : Int × (List Int) × Int) : Option Bool :=
  (M.slices_ContainsFunc_impl_Item_impl_Item__impl_hasItem_1 list_0 (x_1.1, x_1.2.1, x_1.2.2)).bind fun r3 =>
  some r3

noncomputable def M.impl_putChange_entry (c_0 : (Int × (List Int) × Int)) : Option ((Int × (Int × (List Int) × Int))) :=
  (M.impl_copyItem (c_0.1, c_0.2.1, c_0.2.2)).bind fun r6 =>
  some (1, (r6.1, r6.2.1, r6.2.2))

noncomputable def M.impl_LogBetween (a_0 : List (Int × (List Int) × Int)) (b_1 : List (Int × (List Int) × Int)) : Option ((List (Int × (Int × (List Int) × Int)))) :=
  Option.bind ((M.impl_ValidStore a_0).bind fun r2 =>
  (bif !r2 then
  some true
 else
  (M.impl_ValidStore b_1).bind fun r7 =>
  some (!r7))) fun o1 =>
  (bif o1 then
  some []
 else
  Option.bind (loopM (fun (s16 : (List (Int × (Int × (List Int) × Int))) × (Int)) => (bif decide (s16.2 < (a_0.length : Int)) then
  Option.bind ((gidx a_0 s16.2).bind fun x26 =>
  (M.impl_placeOf b_1 x26.1).bind fun r40 =>
  (bif !r40.2 then
  (M.impl_dropChange_entry x26.1).bind fun r46 =>
  (gapp s16.1 ([(r46.1, (r46.2.1, ([] : List Int), r46.2.2.2))] : List (Int × (Int × (List Int) × Int)))).bind fun xs54 =>
  some xs54
 else
  some s16.1)) fun o25 =>
  some (.inl (o25, w64 (s16.2 + 1)))
 else
  some (.inr s16.1))) ([], 0)) fun o15 =>
  Option.bind (loopM (fun (s72 : (List (Int × (Int × (List Int) × Int))) × (Int)) => (bif decide (s72.2 < (b_1.length : Int)) then
  Option.bind ((gidx b_1 s72.2).bind fun x80 =>
  (M.impl_hasItem a_0 (x80.1, x80.2.1, x80.2.2)).bind fun r94 =>
  (bif !r94 then
  (M.impl_putChange_entry (x80.1, x80.2.1, x80.2.2)).bind fun r100 =>
  (gapp s72.1 ([(r100.1, (r100.2.1, r100.2.2.1, r100.2.2.2))] : List (Int × (Int × (List Int) × Int)))).bind fun xs110 =>
  some xs110
 else
  some s72.1)) fun o79 =>
  some (.inl (o79, w64 (s72.2 + 1)))
 else
  some (.inr s72.1))) (o15, 0)) fun o71 =>
  some o71)

noncomputable def M.laws_FnExactLogBetween (aA_0 : List (Int × (List Int) × Int)) (aB_1 : List (Int × (List Int) × Int)) : Option Bool :=
  (M.laws_szItemS aA_0 1048576).bind fun r1 =>
  (bif decide (r1 < 0) then
  some true
 else
  (M.laws_szItemS aB_1 r1).bind fun r6 =>
  (bif decide (r6 < 0) then
  some true
 else
  (M.dItemS aA_0).bind fun r11 =>
  (M.dItemS aB_1).bind fun r19 =>
  (M.spec_LogBetween r11 r19).bind fun r27 =>
  (M.dItemS aA_0).bind fun r33 =>
  (M.dItemS aB_1).bind fun r41 =>
  (M.impl_LogBetween r33 r41).bind fun r49 =>
  (M.laws_eqEntryS r49 r27).bind fun r57 =>
  (bif !r57 then
  some false
 else
  (M.dItemS aA_0).bind fun r62 =>
  (M.laws_eqItemS r33 r62).bind fun r70 =>
  (bif !r70 then
  some false
 else
  (M.dItemS aB_1).bind fun r75 =>
  (M.laws_eqItemS r41 r75).bind fun r83 =>
  (bif !r83 then
  some false
 else
  (M.markItemD r33 1).bind fun r88 =>
  (M.markItemD r41 r88).bind fun r92 =>
  Option.bind ((bif decide (r92 < 0) then
  some true
 else
  (M.laws_eqEntryS r49 r27).bind fun r98 =>
  some (!r98))) fun o96 =>
  (bif o96 then
  some false
 else
  (M.markEntB r49 1).bind fun r104 =>
  (M.laws_heldEntryS r104.2 1).bind fun r109 =>
  (bif decide (r109 < 0) then
  some false
 else
  (bif r109 != r104.1 then
  some false
 else
  (M.dItemS aA_0).bind fun r115 =>
  (M.dItemS aB_1).bind fun r123 =>
  (M.impl_LogBetween r115 r123).bind fun r131 =>
  (M.laws_eqEntryS r131 r27).bind fun r141 =>
  (bif !r141 then
  some false
 else
  (M.laws_heldEntryS r104.2 1).bind fun r146 =>
  (bif decide (r146 < 0) then
  some false
 else
  (bif r146 != r104.1 then
  some false
 else
  some true)))))))))))

end Go.Vs
