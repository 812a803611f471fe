/- What the functions compute. -/
import Derived.Test.YtanbdmdbfjonhaaExactFilterStoreEng1
import Derived.Test.YtanbdmdbfjonhaaExactFilterStoreEng2
import Derived.Lib.Split
import Derived.Lib.Atoi
import Derived.Lib.Join
import Derived.Lib.ItoaNum
set_option linter.unusedVariables false
set_option linter.unusedSimpArgs false
namespace Go.Vs

noncomputable def M.spec_copyInts (list_0 : List Int) : Option ((List Int)) :=
  (gapp ([] : List Int) list_0).bind fun xs6 =>
  some xs6

noncomputable def M.impl_validCoords (coords_0 : List Int) : Option Bool :=
  Option.bind (loopM (fun (s2 : (Int)) => (bif decide (s2 < (coords_0.length : Int)) then
  (gidx coords_0 s2).bind fun x5 =>
  Option.bind ((bif decide (x5 < (-100)) then
  some true
 else
  some (decide (100 < x5)))) fun o11 =>
  (bif o11 then
  some (.inr (.inr false))
 else
  some (.inl (w64 (s2 + 1))))
 else
  some (.inr (.inl ())))) 0) (selim (fun t15 => some true)
   (fun t17 => some t17))

noncomputable def M.impl_ValidVector (v_0 : List Int) : Option Bool :=
  (bif (v_0.length : Int) == 4 then
  (M.impl_validCoords v_0).bind fun r2 =>
  some r2
 else
  some false)

noncomputable def M.spec_inRange (n_0 : Int) (low_1 : Int) (high_2 : Int) : Option Bool :=
  (bif decide (low_1 ≤ n_0) then
  some (decide (n_0 ≤ high_2))
 else
  some false)

noncomputable def M.spec_allIn (list_0 : List Int) (low_1 : Int) (high_2 : Int) : Option Bool :=
  Option.bind (loopM (fun (s2 : (Int)) => (bif decide (s2 < (list_0.length : Int)) then
  (gidx list_0 s2).bind fun x7 =>
  (M.spec_inRange x7 low_1 high_2).bind fun r12 =>
  (bif !r12 then
  some (.inr (.inr false))
 else
  some (.inl (w64 (s2 + 1))))
 else
  some (.inr (.inl ())))) 0) (selim (fun t17 => some true)
   (fun t19 => some t19))

noncomputable def M.spec_isVector (v_0 : List Int) : Option Bool :=
  (bif (v_0.length : Int) == 4 then
  (M.spec_allIn v_0 (-100) 100).bind fun r2 =>
  some r2
 else
  some false)

noncomputable def M.laws_equalInts (a_0 : List Int) (b_1 : List Int) : Option Bool :=
  (bif (a_0.length : Int) != (b_1.length : Int) then
  some false
 else
  Option.bind (loopM (fun (s3 : (Int)) => (bif decide (s3 < (a_0.length : Int)) then
  (gidx a_0 s3).bind fun x9 =>
  (gidx b_1 s3).bind fun x14 =>
  (bif x9 != x14 then
  some (.inr (.inr false))
 else
  some (.inl (w64 (s3 + 1))))
 else
  some (.inr (.inl ())))) 0) (selim (fun t21 => some true)
   (fun t23 => some t23)))

noncomputable def M.spec_validItem (x_0 : Int × (List Int) × Int) : Option Bool :=
  (M.spec_inRange x_0.1 1 99).bind fun r7 =>
  (bif r7 then
  (M.spec_isVector x_0.2.1).bind fun r13 =>
  (bif r13 then
  (M.spec_inRange x_0.2.2 0 15).bind fun r19 =>
  some r19
 else
  some false)
 else
  some false)

noncomputable def M.spec_validStore (list_0 : List (Int × (List Int) × Int)) : Option Bool :=
  Option.bind (loopM (fun (s2 : (Int)) => (bif decide (s2 < (list_0.length : Int)) then
  Option.bind ((gidx list_0 s2).bind fun x8 =>
  (M.spec_validItem (x8.1, x8.2.1, x8.2.2)).bind fun r19 =>
  (bif !r19 then
  some true
 else
  (bif decide (0 < s2) then
  (gidx list_0 s2).bind fun x24 =>
  (gidx list_0 (w64 (s2 - 1))).bind fun x29 =>
  some (decide (x24.1 ≤ x29.1))
 else
  some false))) fun o7 =>
  (bif o7 then
  some (.inr (.inr false))
 else
  some (.inl (w64 (s2 + 1))))
 else
  some (.inr (.inl ())))) 0) (selim (fun t39 => some (decide ((list_0.length : Int) ≤ 16)))
   (fun t42 => some t42))

noncomputable def M.spec_copyItem (x_0 : Int × (List Int) × Int) : Option ((Int × (List Int) × Int)) :=
  (M.spec_copyInts x_0.2.1).bind fun r14 =>
  some (x_0.1, r14, x_0.2.2)

noncomputable def M.impl_validKey (key_0 : Int) : Option Bool :=
  (bif decide (1 ≤ key_0) then
  some (decide (key_0 ≤ 99))
 else
  some false)

noncomputable def M.impl_validTags (tags_0 : Int) : Option Bool :=
  (bif decide (0 ≤ tags_0) then
  some (decide (tags_0 ≤ 15))
 else
  some false)

noncomputable def M.impl_validItem (x_0 : Int × (List Int) × Int) : Option Bool :=
  (M.impl_validKey x_0.1).bind fun r4 =>
  (bif r4 then
  (M.impl_ValidVector x_0.2.1).bind fun r10 =>
  (bif r10 then
  (M.impl_validTags x_0.2.2).bind fun r16 =>
  some r16
 else
  some false)
 else
  some false)

noncomputable def M.impl_ValidStore (list_0 : List (Int × (List Int) × Int)) : Option Bool :=
  (bif decide (16 < (list_0.length : Int)) then
  some false
 else
  Option.bind (loopM (fun (s3 : (Int) × (Int)) => (bif decide (s3.2 < (list_0.length : Int)) then
  (gidx list_0 s3.2).bind fun x8 =>
  Option.bind ((M.impl_validItem (x8.1, x8.2.1, x8.2.2)).bind fun r30 =>
  (bif !r30 then
  some true
 else
  some (decide (x8.1 ≤ s3.1)))) fun o29 =>
  (bif o29 then
  some (.inr (.inr false))
 else
  some (.inl (x8.1, w64 (s3.2 + 1))))
 else
  some (.inr (.inl ())))) (0, 0)) (selim (fun t41 => some true)
   (fun t43 => some t43)))

end Go.Vs

namespace Go.Vs

end Go.Vs

namespace Go.Vs

noncomputable def M.laws_toIntS (a_0 : List Int) : Option ((List Int)) :=
  (gmake (a_0.length : Int) (0 : Int)).bind fun xs1 =>
  Option.bind (loopM (fun (s10 : (List Int) × (Int)) => (bif decide (s10.2 < (a_0.length : Int)) then
  (gidx a_0 s10.2).bind fun x18 =>
  (gidx s10.1 s10.2).bind fun x23 =>
  some (.inl ((s10.1.set s10.2.toNat x18), w64 (s10.2 + 1)))
 else
  some (.inr s10.1))) (xs1, 0)) fun o9 =>
  some o9

noncomputable def M.laws_eqIntS (a_0 : List Int) (b_1 : List Int) : Option Bool :=
  (bif (a_0.length : Int) != (b_1.length : Int) then
  some false
 else
  Option.bind (loopM (fun (s3 : (Int)) => (bif decide (s3 < (a_0.length : Int)) then
  (gidx a_0 s3).bind fun x9 =>
  (gidx b_1 s3).bind fun x14 =>
  (bif x9 != x14 then
  some (.inr (.inr false))
 else
  some (.inl (w64 (s3 + 1))))
 else
  some (.inr (.inl ())))) 0) (selim (fun t21 => some true)
   (fun t23 => some t23)))

noncomputable def M.laws_szIntS (a_0 : List Int) (left_1 : Int) : Option Int :=
  (bif decide ((w64 (left_1 - (a_0.length : Int))) < 0) then
  some (-1)
 else
  some (w64 (left_1 - (a_0.length : Int))))

noncomputable def M.laws_heldIntS (a_0 : List Int) (k_1 : Int) : Option Int :=
  Option.bind (loopM (fun (s2 : (Int) × (Int)) => (bif decide (s2.2 < (a_0.length : Int)) then
  (gidx a_0 s2.2).bind fun x7 =>
  (bif x7 != s2.1 then
  some (.inr (.inr (-1)))
 else
  some (.inl (w64 (s2.1 + 1), w64 (s2.2 + 1))))
 else
  some (.inr (.inl s2.1)))) (k_1, 0)) (selim (fun t13 => some t13)
   (fun t15 => some t15))

noncomputable def M.laws_szItem (a_0 : Int × (List Int) × Int) (left_1 : Int) : Option Int :=
  (M.laws_szIntS a_0.2.1 left_1).bind fun r7 =>
  (bif decide (r7 < 0) then
  some (-1)
 else
  some r7)

noncomputable def M.laws_szItemS (a_0 : List (Int × (List Int) × Int)) (left_1 : Int) : Option Int :=
  (bif decide ((w64 (left_1 - (a_0.length : Int))) < 0) then
  some (-1)
 else
  Option.bind (loopM (fun (s3 : (Int) × (Int)) => (bif decide (s3.2 < (a_0.length : Int)) then
  (gidx a_0 s3.2).bind fun x8 =>
  (M.laws_szItem (x8.1, x8.2.1, x8.2.2) s3.1).bind fun r19 =>
  (bif decide (r19 < 0) then
  some (.inr (.inr (-1)))
 else
  some (.inl (r19, w64 (s3.2 + 1))))
 else
  some (.inr (.inl s3.1)))) (w64 (left_1 - (a_0.length : Int)), 0)) (selim (fun t24 => some t24)
   (fun t26 => some t26)))

noncomputable def M.laws_toItem (a_0 : Int × (List Int) × Int) : Option ((Int × (List Int) × Int)) :=
  (M.laws_toIntS a_0.2.1).bind fun r26 =>
  some (a_0.1, r26, a_0.2.2)

noncomputable def M.laws_eqItem (a_0 : Int × (List Int) × Int) (b_1 : Int × (List Int) × Int) : Option Bool :=
  (bif a_0.1 != b_1.1 then
  some false
 else
  (M.laws_eqIntS a_0.2.1 b_1.2.1).bind fun r15 =>
  (bif !r15 then
  some false
 else
  (bif a_0.2.2 != b_1.2.2 then
  some false
 else
  some true)))

noncomputable def M.laws_eqItemS (a_0 : List (Int × (List Int) × Int)) (b_1 : List (Int × (List Int) × Int)) : Option Bool :=
  (bif (a_0.length : Int) != (b_1.length : Int) then
  some false
 else
  Option.bind (loopM (fun (s3 : (Int)) => (bif decide (s3 < (a_0.length : Int)) then
  (gidx a_0 s3).bind fun x9 =>
  (gidx b_1 s3).bind fun x20 =>
  (M.laws_eqItem (x9.1, x9.2.1, x9.2.2) (x20.1, x20.2.1, x20.2.2)).bind fun r32 =>
  (bif !r32 then
  some (.inr (.inr false))
 else
  some (.inl (w64 (s3 + 1))))
 else
  some (.inr (.inl ())))) 0) (selim (fun t37 => some true)
   (fun t39 => some t39)))

noncomputable def M.laws_heldItemS (a_0 : List (Int × (List Int) × Int)) (k_1 : Int) : Option Int :=
  Option.bind (loopM (fun (s2 : (Int) × (Int)) => (bif decide (s2.2 < (a_0.length : Int)) then
  (gidx a_0 s2.2).bind fun x7 =>
  (bif x7.1 != s2.1 then
  some (.inr (.inr (-1)))
 else
  (gidx a_0 s2.2).bind fun x13 =>
  (M.laws_heldIntS x13.2.1 (w64 (s2.1 + 1))).bind fun r23 =>
  (bif decide (r23 < 0) then
  some (.inr (.inr (-1)))
 else
  (gidx a_0 s2.2).bind fun x28 =>
  (bif x28.2.2 != r23 then
  some (.inr (.inr (-1)))
 else
  some (.inl (w64 (r23 + 1), w64 (s2.2 + 1))))))
 else
  some (.inr (.inl s2.1)))) (k_1, 0)) (selim (fun t34 => some t34)
   (fun t36 => some t36))

end Go.Vs

namespace Go.Vs

end Go.Vs

namespace Go.Vs

end Go.Vs

namespace Go.Vs

noncomputable def M.slices_Clone_int_int (s_0 : List Int) : Option ((List Int)) :=
  (gapp ([] : List Int) s_0).bind fun xs4 =>
  some xs4

noncomputable def M.impl_copyItem (x_0 : Int × (List Int) × Int) : Option ((Int × (List Int) × Int)) :=
  (M.slices_Clone_int_int x_0.2.1).bind fun r7 =>
  some (x_0.1, r7, x_0.2.2)

noncomputable def M.impl_copyItems (list_0 : List (Int × (List Int) × Int)) : Option ((List (Int × (List Int) × Int))) :=
  (gmake (list_0.length : Int) ((0, [], 0) : Int × (List Int) × Int)).bind fun xs1 =>
  Option.bind (loopM (fun (s8 : (List (Int × (List Int) × Int)) × (Int)) => (bif decide (s8.2 < (list_0.length : Int)) then
  (gidx list_0 s8.2).bind fun x13 =>
  (M.impl_copyItem (x13.1, x13.2.1, x13.2.2)).bind fun r27 =>
  (gidx s8.1 s8.2).bind fun x33 =>
  some (.inl ((s8.1.set s8.2.toNat (r27.1, r27.2.1, r27.2.2)), w64 (s8.2 + 1)))
 else
  some (.inr s8.1))) (xs1, 0)) fun o7 =>
  some o7

end Go.Vs

namespace Go.Vs

end Go.Vs

namespace Go.Vs

noncomputable def M.laws_markIntS (a_0 : List Int) (k_1 : Int) : Option (Int × (List Int)) :=
  Option.bind (loopM (fun (s2 : (List Int) × (Int) × (Int)) => (bif decide (s2.2.2 < (s2.1.length : Int)) then
  (gidx s2.1 s2.2.2).bind fun x6 =>
  some (.inl ((s2.1.set s2.2.2.toNat s2.2.1), w64 (s2.2.1 + 1), w64 (s2.2.2 + 1)))
 else
  some (.inr (s2.1, s2.2.1)))) (a_0, k_1, 0)) fun o1 =>
  some (o1.2, o1.1)

end Go.Vs

namespace Go.Vs

end Go.Vs

namespace Go.Vs

end Go.Vs

namespace Go.Vs

end Go.Vs

namespace Go.Vs

open Classical in
noncomputable def M.dItemS (a : List (Int × (List Int) × Int)) : Option (List (Int × (List Int) × Int)) :=
  if a.length ≤ 2147483648 ∧ ∀ x ∈ a, M.laws_toIntS x.2.1 = some x.2.1 then some a else none

theorem dItemS_some {a r : List (Int × (List Int) × Int)} (h : M.dItemS a = some r) : a.length ≤ 2147483648 ∧ (∀ x ∈ a, M.laws_toItem x = some x) ∧ r = a := by
  unfold M.dItemS at h
  split at h
  · rename_i hc
    refine ⟨hc.1, fun x hx => ?_, (Option.some.inj h).symm⟩
    unfold M.laws_toItem
    rw [hc.2 x hx]; rfl
  · cases h
theorem gmake_nat {α : Type} (n : Nat) (z : α) (h : n ≤ 2147483648) : gmake (n : Int) z = some (List.replicate n z) := by
  unfold gmake
  rw [if_pos (by omega)]; simp
end Go.Vs

namespace Go.Vs

end Go.Vs

namespace Go.Vs

end Go.Vs

namespace Go.Vs

end Go.Vs

namespace Go.Vs

end Go.Vs

namespace Go.Vs

end Go.Vs

namespace Go.Vs

noncomputable def M.dmarkItemSB : List (Int × (List Int) × Int) → Int → Option (Int × List (Int × (List Int) × Int))
  | [], k => some (k, [])
  | x :: xs, k => (M.laws_markIntS x.2.1 (w64 (k + 1))).bind fun q => (M.dmarkItemSB xs (w64 (q.1 + 1))).bind fun t => some (t.1, (k, q.2, q.1) :: t.2)

noncomputable def M.markItemB (a : List (Int × (List Int) × Int)) (k : Int) : Option (Int × List (Int × (List Int) × Int)) := if a.length ≤ 2147483648 then M.dmarkItemSB a k else none

theorem markItemB_some {a : List (Int × (List Int) × Int)} {k : Int} {r : Int × List (Int × (List Int) × Int)} (h : M.markItemB a k = some r) : a.length ≤ 2147483648 ∧ M.dmarkItemSB a k = some r := by
  unfold M.markItemB at h; split at h
  · exact ⟨by assumption, h⟩
  · cases h
theorem gidx_mid {β : Type} {A B : List β} {e : β} {i : Nat} (h : A.length = i) : gidx (A ++ e :: B) (i : Int) = some e := by
  subst h
  unfold gidx
  rw [if_pos (by omega)]
  simp
theorem set_mid {β : Type} {A B : List β} {e e' : β} {i : Nat} (h : A.length = i) : (A ++ e :: B).set i e' = A ++ e' :: B := by
  subst h
  rw [List.set_append_right _ _ (Nat.le_refl _), Nat.sub_self, List.set_cons_zero]

end Go.Vs

namespace Go.Vs

end Go.Vs

namespace Go.Vs

end Go.Vs

namespace Go.Vs

end Go.Vs

namespace Go.Vs

end Go.Vs

namespace Go.Vs

noncomputable def M.spec_validFilter (f_0 : Int × Int × Int) : Option Bool :=
  (M.spec_inRange f_0.1 0 15).bind fun r4 =>
  (bif r4 then
  (M.spec_inRange f_0.2.1 0 15).bind fun r10 =>
  (bif r10 then
  (M.spec_inRange f_0.2.2 0 15).bind fun r16 =>
  some r16
 else
  some false)
 else
  some false)

noncomputable def M.laws_toFilter (a_0 : Int × Int × Int) : Option ((Int × Int × Int)) :=
  some (a_0.1, a_0.2.1, a_0.2.2)

noncomputable def M.spec_passes (f_0 : Int × Int × Int) (tags_1 : Int) : Option Bool :=
  (bif (gand tags_1 f_0.1) == f_0.1 then
  (bif (gand tags_1 f_0.2.1) == 0 then
  (bif f_0.2.2 == 0 then
  some true
 else
  some ((gand tags_1 f_0.2.2) != 0))
 else
  some false)
 else
  some false)

noncomputable def M.spec_FilterStore (list_0 : List (Int × (List Int) × Int)) (f_1 : Int × Int × Int) : Option ((List (Int × (List Int) × Int))) :=
  Option.bind ((M.spec_validStore list_0).bind fun r6 =>
  (bif !r6 then
  some true
 else
  (M.spec_validFilter (f_1.1, f_1.2.1, f_1.2.2)).bind fun r12 =>
  some (!r12))) fun o5 =>
  (bif o5 then
  some []
 else
  Option.bind (loopM (fun (s19 : (List (Int × (List Int) × Int)) × (Int)) => (bif decide (s19.2 < (list_0.length : Int)) then
  Option.bind ((gidx list_0 s19.2).bind fun x26 =>
  (M.spec_passes (f_1.1, f_1.2.1, f_1.2.2) x26.2.2).bind fun r34 =>
  (bif r34 then
  (gidx list_0 s19.2).bind fun x39 =>
  (M.spec_copyItem (x39.1, x39.2.1, x39.2.2)).bind fun r49 =>
  (gapp s19.1 ([(r49.1, r49.2.1, r49.2.2)] : List (Int × (List Int) × Int))).bind fun xs59 =>
  some xs59
 else
  some s19.1)) fun o24 =>
  some (.inl (o24, w64 (s19.2 + 1)))
 else
  some (.inr s19.1))) (([] : List (Int × (List Int) × Int)), 0)) fun o18 =>
  some o18)

end Go.Vs

namespace Go.Vs

end Go.Vs

namespace Go.Vs

end Go.Vs

namespace Go.Vs

noncomputable def M.impl_ValidFilter (f_0 : Int × Int × Int) : Option Bool :=
  (M.impl_validTags f_0.1).bind fun r4 =>
  (bif r4 then
  (M.impl_validTags f_0.2.1).bind fun r10 =>
  (bif r10 then
  (M.impl_validTags f_0.2.2).bind fun r16 =>
  some r16
 else
  some false)
 else
  some false)

noncomputable def M.impl_tagMask_hasAll (m_0 : Int) (others_1 : Int) : Option Bool :=
  some ((gand m_0 others_1) == others_1)

noncomputable def M.impl_tagMask_hasAny (m_0 : Int) (others_1 : Int) : Option Bool :=
  some ((gand m_0 others_1) != 0)

noncomputable def M.impl_Filter_accepts (f_0 : Int × Int × Int) (tags_1 : Int) : Option Bool :=
  (M.impl_tagMask_hasAll tags_1 f_0.1).bind fun r4 =>
  (bif r4 then
  (M.impl_tagMask_hasAny tags_1 f_0.2.1).bind fun r10 =>
  (bif !r10 then
  (bif f_0.2.2 == 0 then
  some true
 else
  (M.impl_tagMask_hasAny tags_1 f_0.2.2).bind fun r18 =>
  some r18)
 else
  some false)
 else
  some false)

noncomputable def M.x_impl_Filter_itemsOf_1__p_impl_Filter (x_0 : Int × (List Int) × Int) (p_1 : Int × Int × Int) : Option Bool :=
  (M.impl_Filter_accepts (p_1.1, p_1.2.1, p_1.2.2) x_0.2.2).bind fun r5 =>
  some r5

noncomputable def M.impl_itemsThat__x_impl_Filter_itemsOf_1 (list_0 : List (Int × (List Int) × Int)) (chosen_1_0 : Int × Int × Int) : Option ((List (Int × (List Int) × Int))) :=
  Option.bind (loopM (fun (s2 : (List (Int × (List Int) × Int)) × (Int)) => (bif decide (s2.2 < (list_0.length : Int)) then
  Option.bind ((gidx list_0 s2.2).bind fun x8 =>
  (M.x_impl_Filter_itemsOf_1__p_impl_Filter (x8.1, x8.2.1, x8.2.2) (chosen_1_0.1, chosen_1_0.2.1, chosen_1_0.2.2)).bind fun r22 =>
  (bif r22 then
  (gapp s2.1 ([(x8.1, x8.2.1, x8.2.2)] : List (Int × (List Int) × Int))).bind fun xs30 =>
  some xs30
 else
  some s2.1)) fun o7 =>
  some (.inl (o7, w64 (s2.2 + 1)))
 else
  some (.inr s2.1))) ([], 0)) fun o1 =>
  some o1

noncomputable def M.impl_Filter_itemsOf (f_0 : Int × Int × Int) (list_1 : List (Int × (List Int) × Int)) : Option ((List (Int × (List Int) × Int))) :=
  (M.impl_itemsThat__x_impl_Filter_itemsOf_1 list_1 (f_0.1, f_0.2.1, f_0.2.2)).bind fun r3 =>
  some r3

noncomputable def M.impl_FilterStore (list_0 : List (Int × (List Int) × Int)) (f_1 : Int × Int × Int) : Option ((List (Int × (List Int) × Int))) :=
  Option.bind ((M.impl_ValidStore list_0).bind fun r4 =>
  (bif !r4 then
  some true
 else
  (M.impl_ValidFilter (f_1.1, f_1.2.1, f_1.2.2)).bind fun r10 =>
  some (!r10))) fun o3 =>
  (bif o3 then
  some []
 else
  (M.impl_Filter_itemsOf (f_1.1, f_1.2.1, f_1.2.2) list_0).bind fun r17 =>
  (M.impl_copyItems r17).bind fun r25 =>
  some r25)

noncomputable def M.laws_FnExactFilterStore (aList_0 : List (Int × (List Int) × Int)) (aF_1 : Int × Int × Int) : Option Bool :=
  (M.laws_szItemS aList_0 1048576).bind fun r3 =>
  (bif decide (r3 < 0) then
  some true
 else
  (M.dItemS aList_0).bind fun r8 =>
  (M.laws_toFilter (aF_1.1, aF_1.2.1, aF_1.2.2)).bind fun r17 =>
  (M.spec_FilterStore r8 (r17.1, r17.2.1, r17.2.2)).bind fun r21 =>
  (M.dItemS aList_0).bind fun r27 =>
  (M.laws_toFilter (aF_1.1, aF_1.2.1, aF_1.2.2)).bind fun r36 =>
  (M.impl_FilterStore r27 (r36.1, r36.2.1, r36.2.2)).bind fun r40 =>
  (M.laws_eqItemS r40 r21).bind fun r49 =>
  (bif !r49 then
  some false
 else
  (M.dItemS aList_0).bind fun r54 =>
  (M.laws_eqItemS r27 r54).bind fun r62 =>
  (bif !r62 then
  some false
 else
  (M.markItemB r27 1).bind fun r67 =>
  Option.bind ((bif decide (r67.1 < 0) then
  some true
 else
  (M.laws_eqItemS r40 r21).bind fun r74 =>
  some (!r74))) fun o72 =>
  (bif o72 then
  some false
 else
  (M.markItemB r40 1).bind fun r80 =>
  (M.laws_heldItemS r80.2 1).bind fun r85 =>
  (bif decide (r85 < 0) then
  some false
 else
  (bif r85 != r80.1 then
  some false
 else
  (M.dItemS aList_0).bind fun r91 =>
  (M.laws_toFilter (aF_1.1, aF_1.2.1, aF_1.2.2)).bind fun r100 =>
  (M.impl_FilterStore r91 (r100.1, r100.2.1, r100.2.2)).bind fun r104 =>
  (M.laws_eqItemS r104 r21).bind fun r115 =>
  (bif !r115 then
  some false
 else
  (M.laws_heldItemS r80.2 1).bind fun r120 =>
  (bif decide (r120 < 0) then
  some false
 else
  (bif r120 != r80.1 then
  some false
 else
  some true)))))))))

end Go.Vs

namespace Go.Vs

end Go.Vs

namespace Go.Vs

end Go.Vs

namespace Go.Vs

end Go.Vs

namespace Go.Vs

end Go.Vs

namespace Go.Vs

end Go.Vs

namespace Go.Vs

end Go.Vs

namespace Go.Vs

end Go.Vs

namespace Go.Vs

end Go.Vs

namespace Go.Vs

end Go.Vs

namespace Go.Vs
open Go

/-! ## What the library computes -/
end Go.Vs

namespace Go.Vs

end Go.Vs

namespace Go.Vs

end Go.Vs
