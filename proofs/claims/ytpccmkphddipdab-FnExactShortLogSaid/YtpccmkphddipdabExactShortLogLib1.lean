/- What the functions compute. -/
import Derived.Test.YtpccmkphddipdabExactShortLogEng1
import Derived.Test.YtpccmkphddipdabExactShortLogEng2
set_option linter.unusedVariables false
set_option linter.unusedSimpArgs false
namespace Go.Vs

noncomputable def M.spec_copyInts (list_0 : List Int) : Option ((List Int)) :=
  (gapp ([] : List Int) list_0).bind fun xs6 =>
  some xs6

noncomputable def M.impl_validCoords (coords_0 : List Int) : Option Bool :=
  Option.bind (loopM (fun (s2 : (Int)) => (bif decide (s2 < (coords_0.length : Int)) then
  (gidx coords_0 s2).bind fun x5 =>
  Option.bind ((bif decide (x5 < (-100)) then
  some true
 else
  some (decide (100 < x5)))) fun o11 =>
  (bif o11 then
  some (.inr (.inr false))
 else
  some (.inl (w64 (s2 + 1))))
 else
  some (.inr (.inl ())))) 0) (selim (fun t15 => some true)
   (fun t17 => some t17))

noncomputable def M.impl_ValidVector (v_0 : List Int) : Option Bool :=
  (bif (v_0.length : Int) == 4 then
  (M.impl_validCoords v_0).bind fun r2 =>
  some r2
 else
  some false)

noncomputable def M.spec_inRange (n_0 : Int) (low_1 : Int) (high_2 : Int) : Option Bool :=
  (bif decide (low_1 ≤ n_0) then
  some (decide (n_0 ≤ high_2))
 else
  some false)

noncomputable def M.spec_allIn (list_0 : List Int) (low_1 : Int) (high_2 : Int) : Option Bool :=
  Option.bind (loopM (fun (s2 : (Int)) => (bif decide (s2 < (list_0.length : Int)) then
  (gidx list_0 s2).bind fun x7 =>
  (M.spec_inRange x7 low_1 high_2).bind fun r12 =>
  (bif !r12 then
  some (.inr (.inr false))
 else
  some (.inl (w64 (s2 + 1))))
 else
  some (.inr (.inl ())))) 0) (selim (fun t17 => some true)
   (fun t19 => some t19))

noncomputable def M.spec_isVector (v_0 : List Int) : Option Bool :=
  (bif (v_0.length : Int) == 4 then
  (M.spec_allIn v_0 (-100) 100).bind fun r2 =>
  some r2
 else
  some false)

noncomputable def M.laws_equalInts (a_0 : List Int) (b_1 : List Int) : Option Bool :=
  (bif (a_0.length : Int) != (b_1.length : Int) then
  some false
 else
  Option.bind (loopM (fun (s3 : (Int)) => (bif decide (s3 < (a_0.length : Int)) then
  (gidx a_0 s3).bind fun x9 =>
  (gidx b_1 s3).bind fun x14 =>
  (bif x9 != x14 then
  some (.inr (.inr false))
 else
  some (.inl (w64 (s3 + 1))))
 else
  some (.inr (.inl ())))) 0) (selim (fun t21 => some true)
   (fun t23 => some t23)))

noncomputable def M.spec_validItem (x_0 : Int × (List Int) × Int) : Option Bool :=
  (M.spec_inRange x_0.1 1 99).bind fun r7 =>
  (bif r7 then
  (M.spec_isVector x_0.2.1).bind fun r13 =>
  (bif r13 then
  (M.spec_inRange x_0.2.2 0 15).bind fun r19 =>
  some r19
 else
  some false)
 else
  some false)

noncomputable def M.spec_copyItem (x_0 : Int × (List Int) × Int) : Option ((Int × (List Int) × Int)) :=
  (M.spec_copyInts x_0.2.1).bind fun r14 =>
  some (x_0.1, r14, x_0.2.2)

noncomputable def M.impl_validKey (key_0 : Int) : Option Bool :=
  (bif decide (1 ≤ key_0) then
  some (decide (key_0 ≤ 99))
 else
  some false)

noncomputable def M.impl_validTags (tags_0 : Int) : Option Bool :=
  (bif decide (0 ≤ tags_0) then
  some (decide (tags_0 ≤ 15))
 else
  some false)

noncomputable def M.impl_validItem (x_0 : Int × (List Int) × Int) : Option Bool :=
  (M.impl_validKey x_0.1).bind fun r4 =>
  (bif r4 then
  (M.impl_ValidVector x_0.2.1).bind fun r10 =>
  (bif r10 then
  (M.impl_validTags x_0.2.2).bind fun r16 =>
  some r16
 else
  some false)
 else
  some false)

end Go.Vs

namespace Go.Vs

end Go.Vs

namespace Go.Vs

noncomputable def M.laws_toIntS (a_0 : List Int) : Option ((List Int)) :=
  (gmake (a_0.length : Int) (0 : Int)).bind fun xs1 =>
  Option.bind (loopM (fun (s10 : (List Int) × (Int)) => (bif decide (s10.2 < (a_0.length : Int)) then
  (gidx a_0 s10.2).bind fun x18 =>
  (gidx s10.1 s10.2).bind fun x23 =>
  some (.inl ((s10.1.set s10.2.toNat x18), w64 (s10.2 + 1)))
 else
  some (.inr s10.1))) (xs1, 0)) fun o9 =>
  some o9

noncomputable def M.laws_eqIntS (a_0 : List Int) (b_1 : List Int) : Option Bool :=
  (bif (a_0.length : Int) != (b_1.length : Int) then
  some false
 else
  Option.bind (loopM (fun (s3 : (Int)) => (bif decide (s3 < (a_0.length : Int)) then
  (gidx a_0 s3).bind fun x9 =>
  (gidx b_1 s3).bind fun x14 =>
  (bif x9 != x14 then
  some (.inr (.inr false))
 else
  some (.inl (w64 (s3 + 1))))
 else
  some (.inr (.inl ())))) 0) (selim (fun t21 => some true)
   (fun t23 => some t23)))

noncomputable def M.laws_szIntS (a_0 : List Int) (left_1 : Int) : Option Int :=
  (bif decide ((w64 (left_1 - (a_0.length : Int))) < 0) then
  some (-1)
 else
  some (w64 (left_1 - (a_0.length : Int))))

noncomputable def M.laws_heldIntS (a_0 : List Int) (k_1 : Int) : Option Int :=
  Option.bind (loopM (fun (s2 : (Int) × (Int)) => (bif decide (s2.2 < (a_0.length : Int)) then
  (gidx a_0 s2.2).bind fun x7 =>
  (bif x7 != s2.1 then
  some (.inr (.inr (-1)))
 else
  some (.inl (w64 (s2.1 + 1), w64 (s2.2 + 1))))
 else
  some (.inr (.inl s2.1)))) (k_1, 0)) (selim (fun t13 => some t13)
   (fun t15 => some t15))

noncomputable def M.laws_szItem (a_0 : Int × (List Int) × Int) (left_1 : Int) : Option Int :=
  (M.laws_szIntS a_0.2.1 left_1).bind fun r7 =>
  (bif decide (r7 < 0) then
  some (-1)
 else
  some r7)

noncomputable def M.laws_toItem (a_0 : Int × (List Int) × Int) : Option ((Int × (List Int) × Int)) :=
  (M.laws_toIntS a_0.2.1).bind fun r26 =>
  some (a_0.1, r26, a_0.2.2)

noncomputable def M.laws_eqItem (a_0 : Int × (List Int) × Int) (b_1 : Int × (List Int) × Int) : Option Bool :=
  (bif a_0.1 != b_1.1 then
  some false
 else
  (M.laws_eqIntS a_0.2.1 b_1.2.1).bind fun r15 =>
  (bif !r15 then
  some false
 else
  (bif a_0.2.2 != b_1.2.2 then
  some false
 else
  some true)))

end Go.Vs

namespace Go.Vs

end Go.Vs

namespace Go.Vs

end Go.Vs

namespace Go.Vs

noncomputable def M.slices_Clone_int_int (s_0 : List Int) : Option ((List Int)) :=
  (gapp ([] : List Int) s_0).bind fun xs4 =>
  some xs4

noncomputable def M.impl_copyItem (x_0 : Int × (List Int) × Int) : Option ((Int × (List Int) × Int)) :=
  (M.slices_Clone_int_int x_0.2.1).bind fun r7 =>
  some (x_0.1, r7, x_0.2.2)

end Go.Vs

namespace Go.Vs

end Go.Vs

namespace Go.Vs

noncomputable def M.laws_markIntS (a_0 : List Int) (k_1 : Int) : Option (Int × (List Int)) :=
  Option.bind (loopM (fun (s2 : (List Int) × (Int) × (Int)) => (bif decide (s2.2.2 < (s2.1.length : Int)) then
  (gidx s2.1 s2.2.2).bind fun x6 =>
  some (.inl ((s2.1.set s2.2.2.toNat s2.2.1), w64 (s2.2.1 + 1), w64 (s2.2.2 + 1)))
 else
  some (.inr (s2.1, s2.2.1)))) (a_0, k_1, 0)) fun o1 =>
  some (o1.2, o1.1)

end Go.Vs

namespace Go.Vs

end Go.Vs

namespace Go.Vs

end Go.Vs

namespace Go.Vs

end Go.Vs

namespace Go.Vs

theorem gmake_nat {α : Type} (n : Nat) (z : α) (h : n ≤ 2147483648) : gmake (n : Int) z = some (List.replicate n z) := by
  unfold gmake
  rw [if_pos (by omega)]; simp
end Go.Vs

namespace Go.Vs

end Go.Vs

namespace Go.Vs

end Go.Vs

namespace Go.Vs

end Go.Vs

namespace Go.Vs

end Go.Vs

namespace Go.Vs

end Go.Vs

namespace Go.Vs

theorem gidx_mid {β : Type} {A B : List β} {e : β} {i : Nat} (h : A.length = i) : gidx (A ++ e :: B) (i : Int) = some e := by
  subst h
  unfold gidx
  rw [if_pos (by omega)]
  simp
theorem set_mid {β : Type} {A B : List β} {e e' : β} {i : Nat} (h : A.length = i) : (A ++ e :: B).set i e' = A ++ e' :: B := by
  subst h
  rw [List.set_append_right _ _ (Nat.le_refl _), Nat.sub_self, List.set_cons_zero]

end Go.Vs

namespace Go.Vs

end Go.Vs

namespace Go.Vs

end Go.Vs

namespace Go.Vs

end Go.Vs

namespace Go.Vs

end Go.Vs

namespace Go.Vs

end Go.Vs

namespace Go.Vs

end Go.Vs

namespace Go.Vs

noncomputable def M.spec_validEntry (e_0 : Int × (Int × (List Int) × Int)) : Option Bool :=
  (bif e_0.1 == 1 then
  (M.spec_validItem (e_0.2.1, e_0.2.2.1, e_0.2.2.2)).bind fun r6 =>
  some r6
 else
  (bif e_0.1 == 2 then
  (M.spec_inRange e_0.2.1 1 99).bind fun r13 =>
  (bif r13 then
  (bif (e_0.2.2.1.length : Int) == 0 then
  some (e_0.2.2.2 == 0)
 else
  some false)
 else
  some false)
 else
  some false))

noncomputable def M.spec_validLog (list_0 : List (Int × (Int × (List Int) × Int))) : Option Bool :=
  Option.bind (loopM (fun (s2 : (Int)) => (bif decide (s2 < (list_0.length : Int)) then
  (gidx list_0 s2).bind fun x5 =>
  (M.spec_validEntry (x5.1, (x5.2.1, x5.2.2.1, x5.2.2.2))).bind fun r15 =>
  (bif !r15 then
  some (.inr (.inr false))
 else
  some (.inl (w64 (s2 + 1))))
 else
  some (.inr (.inl ())))) 0) (selim (fun t20 => some (decide ((list_0.length : Int) ≤ 32)))
   (fun t22 => some t22))

noncomputable def M.spec_copyEntry (e_0 : Int × (Int × (List Int) × Int)) : Option ((Int × (Int × (List Int) × Int))) :=
  (M.spec_copyItem (e_0.2.1, e_0.2.2.1, e_0.2.2.2)).bind fun r7 =>
  some (e_0.1, (r7.1, r7.2.1, r7.2.2))

noncomputable def M.spec_ShortLog (log_0 : List (Int × (Int × (List Int) × Int))) : Option ((List (Int × (Int × (List Int) × Int)))) :=
  (M.spec_validLog log_0).bind fun r3 =>
  (bif !r3 then
  some []
 else
  Option.bind (loopM (fun (s9 : (List (Int × (Int × (List Int) × Int))) × (Int)) => (bif decide (s9.2 < (log_0.length : Int)) then
  Option.bind (Option.bind (loopM (fun (s16 : (Bool) × (Int)) => (bif decide (s16.2 < (log_0.length : Int)) then
  Option.bind ((bif s16.1 then
  some true
 else
  (gidx log_0 s16.2).bind fun x23 =>
  (gidx log_0 s9.2).bind fun x29 =>
  some (x23.2.1 == x29.2.1))) fun o19 =>
  some (.inl (o19, w64 (s16.2 + 1)))
 else
  some (.inr s16.1))) (false, w64 (s9.2 + 1))) fun o15 =>
  (bif !o15 then
  (gidx log_0 s9.2).bind fun x40 =>
  (M.spec_copyEntry (x40.1, (x40.2.1, x40.2.2.1, x40.2.2.2))).bind fun r50 =>
  (gapp s9.1 ([(r50.1, (r50.2.1, r50.2.2.1, r50.2.2.2))] : List (Int × (Int × (List Int) × Int)))).bind fun xs60 =>
  some xs60
 else
  some s9.1)) fun o14 =>
  some (.inl (o14, w64 (s9.2 + 1)))
 else
  some (.inr s9.1))) (([] : List (Int × (Int × (List Int) × Int))), 0)) fun o8 =>
  some o8)

noncomputable def M.laws_eqEntry (a_0 : Int × (Int × (List Int) × Int)) (b_1 : Int × (Int × (List Int) × Int)) : Option Bool :=
  (bif a_0.1 != b_1.1 then
  some false
 else
  (M.laws_eqItem (a_0.2.1, a_0.2.2.1, a_0.2.2.2) (b_1.2.1, b_1.2.2.1, b_1.2.2.2)).bind fun r10 =>
  (bif !r10 then
  some false
 else
  some true))

noncomputable def M.laws_eqEntryS (a_0 : List (Int × (Int × (List Int) × Int))) (b_1 : List (Int × (Int × (List Int) × Int))) : Option Bool :=
  (bif (a_0.length : Int) != (b_1.length : Int) then
  some false
 else
  Option.bind (loopM (fun (s3 : (Int)) => (bif decide (s3 < (a_0.length : Int)) then
  (gidx a_0 s3).bind fun x6 =>
  (gidx b_1 s3).bind fun x16 =>
  (M.laws_eqEntry (x6.1, (x6.2.1, x6.2.2.1, x6.2.2.2)) (x16.1, (x16.2.1, x16.2.2.1, x16.2.2.2))).bind fun r28 =>
  (bif !r28 then
  some (.inr (.inr false))
 else
  some (.inl (w64 (s3 + 1))))
 else
  some (.inr (.inl ())))) 0) (selim (fun t33 => some true)
   (fun t35 => some t35)))

noncomputable def M.laws_heldEntryS (a_0 : List (Int × (Int × (List Int) × Int))) (k_1 : Int) : Option Int :=
  Option.bind (loopM (fun (s2 : (Int) × (Int)) => (bif decide (s2.2 < (a_0.length : Int)) then
  (gidx a_0 s2.2).bind fun x5 =>
  (bif x5.1 != s2.1 then
  some (.inr (.inr (-1)))
 else
  (gidx a_0 s2.2).bind fun x12 =>
  (bif x12.2.1 != (w64 (s2.1 + 1)) then
  some (.inr (.inr (-1)))
 else
  (gidx a_0 s2.2).bind fun x19 =>
  (M.laws_heldIntS x19.2.2.1 (w64 ((w64 (s2.1 + 1)) + 1))).bind fun r29 =>
  (bif decide (r29 < 0) then
  some (.inr (.inr (-1)))
 else
  (gidx a_0 s2.2).bind fun x34 =>
  (bif x34.2.2.2 != r29 then
  some (.inr (.inr (-1)))
 else
  some (.inl (w64 (r29 + 1), w64 (s2.2 + 1)))))))
 else
  some (.inr (.inl s2.1)))) (k_1, 0)) (selim (fun t41 => some t41)
   (fun t43 => some t43))

noncomputable def M.laws_szEntry (a_0 : Int × (Int × (List Int) × Int)) (left_1 : Int) : Option Int :=
  (M.laws_szItem (a_0.2.1, a_0.2.2.1, a_0.2.2.2) left_1).bind fun r4 =>
  (bif decide (r4 < 0) then
  some (-1)
 else
  some r4)

noncomputable def M.laws_szEntryS (a_0 : List (Int × (Int × (List Int) × Int))) (left_1 : Int) : Option Int :=
  (bif decide ((w64 (left_1 - (a_0.length : Int))) < 0) then
  some (-1)
 else
  Option.bind (loopM (fun (s3 : (Int) × (Int)) => (bif decide (s3.2 < (a_0.length : Int)) then
  (gidx a_0 s3.2).bind fun x6 =>
  (M.laws_szEntry (x6.1, (x6.2.1, x6.2.2.1, x6.2.2.2)) s3.1).bind fun r16 =>
  (bif decide (r16 < 0) then
  some (.inr (.inr (-1)))
 else
  some (.inl (r16, w64 (s3.2 + 1))))
 else
  some (.inr (.inl s3.1)))) (w64 (left_1 - (a_0.length : Int)), 0)) (selim (fun t21 => some t21)
   (fun t23 => some t23)))

noncomputable def M.laws_toEntry (a_0 : Int × (Int × (List Int) × Int)) : Option ((Int × (Int × (List Int) × Int))) :=
  (M.laws_toItem (a_0.2.1, a_0.2.2.1, a_0.2.2.2)).bind fun r10 =>
  some (a_0.1, (r10.1, r10.2.1, r10.2.2))

end Go.Vs

namespace Go.Vs

end Go.Vs

namespace Go.Vs

open Classical in
noncomputable def M.dEntS (a : List (Int × (Int × (List Int) × Int))) : Option (List (Int × (Int × (List Int) × Int))) :=
  if a.length ≤ 2147483648 ∧ ∀ x ∈ a, M.laws_toEntry x = some x then some a else none

noncomputable def M.dmarkEntSB : List (Int × (Int × (List Int) × Int)) → Int → Option (Int × List (Int × (Int × (List Int) × Int)))
  | [], k => some (k, [])
  | x :: xs, k => (M.laws_markIntS x.2.2.1 (w64 (w64 (k + 1) + 1))).bind fun q => (M.dmarkEntSB xs (w64 (q.1 + 1))).bind fun t => some (t.1, (k, (w64 (k + 1), q.2, q.1)) :: t.2)

noncomputable def M.markEntB (a : List (Int × (Int × (List Int) × Int))) (k : Int) : Option (Int × List (Int × (Int × (List Int) × Int))) := if a.length ≤ 2147483648 then M.dmarkEntSB a k else none

theorem markEntB_some {a : List (Int × (Int × (List Int) × Int))} {k : Int} {r : Int × List (Int × (Int × (List Int) × Int))} (h : M.markEntB a k = some r) : a.length ≤ 2147483648 ∧ M.dmarkEntSB a k = some r := by
  unfold M.markEntB at h; split at h
  · exact ⟨by assumption, h⟩
  · cases h
theorem dEntS_some {a r : List (Int × (Int × (List Int) × Int))} (h : M.dEntS a = some r) : a.length ≤ 2147483648 ∧ (∀ x ∈ a, M.laws_toEntry x = some x) ∧ r = a := by
  unfold M.dEntS at h
  split at h
  · rename_i hc
    exact ⟨hc.1, hc.2, (Option.some.inj h).symm⟩
  · cases h
end Go.Vs

namespace Go.Vs

end Go.Vs

namespace Go.Vs

end Go.Vs

namespace Go.Vs

end Go.Vs

namespace Go.Vs

end Go.Vs

namespace Go.Vs

end Go.Vs

namespace Go.Vs

end Go.Vs

namespace Go.Vs

noncomputable def M.impl_dropChange_entry (c_0 : Int) : Option ((Int × (Int × (List Int) × Int))) :=
  some (2, (c_0, [], 0))

noncomputable def M.impl_putChange_entry (c_0 : (Int × (List Int) × Int)) : Option ((Int × (Int × (List Int) × Int))) :=
  (M.impl_copyItem (c_0.1, c_0.2.1, c_0.2.2)).bind fun r6 =>
  some (1, (r6.1, r6.2.1, r6.2.2))

noncomputable def M.impl_onlyKey (x_0 : Int × (List Int) × Int) : Option Bool :=
  (M.impl_validKey x_0.1).bind fun r4 =>
  (bif r4 then
  (bif (x_0.2.1.length : Int) == 0 then
  some (x_0.2.2 == 0)
 else
  some false)
 else
  some false)

noncomputable def M.impl_changeOf (e_0 : Int × (Int × (List Int) × Int)) : Option ((If2 Int ((Int × (List Int) × Int))) × Bool) :=
  Option.bind ((bif e_0.1 == 1 then
  (M.impl_validItem (e_0.2.1, e_0.2.2.1, e_0.2.2.2)).bind fun r7 =>
  some r7
 else
  some false)) fun o3 =>
  (bif o3 then
  some ((If2.mk 2 0 (e_0.2.1, e_0.2.2.1, e_0.2.2.2)), true)
 else
  Option.bind ((bif e_0.1 == 2 then
  (M.impl_onlyKey (e_0.2.1, e_0.2.2.1, e_0.2.2.2)).bind fun r18 =>
  some r18
 else
  some false)) fun o14 =>
  (bif o14 then
  some ((If2.mk 1 e_0.2.1 (0, [], 0)), true)
 else
  some ((If2.mk 0 0 (0, [], 0)), false)))

noncomputable def M.impl_changesOf (log_0 : List (Int × (Int × (List Int) × Int))) : Option ((List (If2 Int ((Int × (List Int) × Int)))) × Bool) :=
  (bif decide (32 < (log_0.length : Int)) then
  some ([], false)
 else
  (gmake (log_0.length : Int) ((If2.mk 0 0 (0, [], 0)) : If2 Int ((Int × (List Int) × Int)))).bind fun xs2 =>
  Option.bind (loopM (fun (s9 : (List (If2 Int ((Int × (List Int) × Int)))) × (Int)) => (bif decide (s9.2 < (log_0.length : Int)) then
  (gidx log_0 s9.2).bind fun x14 =>
  (M.impl_changeOf (x14.1, (x14.2.1, x14.2.2.1, x14.2.2.2))).bind fun r28 =>
  (bif !r28.2 then
  some (.inr (.inr ([], false)))
 else
  (gidx s9.1 s9.2).bind fun x35 =>
  some (.inl ((s9.1.set s9.2.toNat (If2.mk r28.1.1 r28.1.2.1 (r28.1.2.2.1, r28.1.2.2.2.1, r28.1.2.2.2.2))), w64 (s9.2 + 1))))
 else
  some (.inr (.inl s9.1)))) (xs2, 0)) (selim (fun t44 => some (t44, true))
   (fun t48 => some (t48.1, t48.2))))

noncomputable def M.impl_dropChange_key (c_0 : Int) : Option Int :=
  some c_0

noncomputable def M.impl_putChange_key (c_0 : (Int × (List Int) × Int)) : Option Int :=
  some c_0.1

noncomputable def M.impl_changeKey_1__p3 (c_0 : If2 Int ((Int × (List Int) × Int))) (p_1 : Int) : Option Bool :=
  (bif c_0.1 == 1 then
  (M.impl_dropChange_key c_0.2.1).bind fun r4 =>
  some (r4 == p_1)
 else
  (bif c_0.1 == 2 then
  (M.impl_putChange_key (c_0.2.2.1, c_0.2.2.2.1, c_0.2.2.2.2)).bind fun r10 =>
  some (r10 == p_1)
 else
  none))

noncomputable def M.slices_IndexFunc_impl_change_impl_change__impl_changeKey_1 (s_0 : List (If2 Int ((Int × (List Int) × Int)))) (f_1_0 : Int) : Option Int :=
  Option.bind (loopM (fun (s2 : (Int)) => (bif decide (s2 < (s_0.length : Int)) then
  (gidx s_0 s2).bind fun x5 =>
  (M.impl_changeKey_1__p3 (If2.mk x5.1 x5.2.1 (x5.2.2.1, x5.2.2.2.1, x5.2.2.2.2)) f_1_0).bind fun r16 =>
  (bif r16 then
  some (.inr (.inr s2))
 else
  some (.inl (w64 (s2 + 1))))
 else
  some (.inr (.inl ())))) 0) (selim (fun t21 => some (-1))
   (fun t23 => some t23))

noncomputable def M.slices_ContainsFunc_impl_change_impl_change__impl_changeKey_1 (s_0 : List (If2 Int ((Int × (List Int) × Int)))) (f_1_0 : Int) : Option Bool :=
  (M.slices_IndexFunc_impl_change_impl_change__impl_changeKey_1 s_0 f_1_0).bind fun r1 =>
  some (decide (0 ≤ r1))

noncomputable def M.impl_changeKey (changes_0 : List (If2 Int ((Int × (List Int) × Int)))) (key_1 : Int) : Option Bool :=
  (M.slices_ContainsFunc_impl_change_impl_change__impl_changeKey_1 changes_0 key_1).bind fun r3 =>
  some r3

noncomputable def M.impl_ShortLog (log_0 : List (Int × (Int × (List Int) × Int))) : Option ((List (Int × (Int × (List Int) × Int)))) :=
  (M.impl_changesOf log_0).bind fun r1 =>
  (bif !r1.2 then
  some []
 else
  Option.bind (loopM (fun (s11 : (List (Int × (Int × (List Int) × Int))) × (Int)) => (bif decide (s11.2 < (r1.1.length : Int)) then
  Option.bind ((gidx r1.1 s11.2).bind fun x23 =>
  Option.bind ((gslice r1.1 (w64 (s11.2 + 1)) (r1.1.length : Int)).bind fun xs35 =>
  (bif x23.1 == 1 then
  (M.impl_dropChange_key x23.2.1).bind fun r44 =>
  (M.impl_changeKey xs35 r44).bind fun r48 =>
  some (!r48)
 else
  (bif x23.1 == 2 then
  (M.impl_putChange_key (x23.2.2.1, x23.2.2.2.1, x23.2.2.2.2)).bind fun r53 =>
  (M.impl_changeKey xs35 r53).bind fun r57 =>
  some (!r57)
 else
  none))) fun o34 =>
  (bif o34 then
  (bif x23.1 == 1 then
  (M.impl_dropChange_entry x23.2.1).bind fun r67 =>
  (gapp s11.1 ([(r67.1, (r67.2.1, ([] : List Int), r67.2.2.2))] : List (Int × (Int × (List Int) × Int)))).bind fun xs75 =>
  some xs75
 else
  (bif x23.1 == 2 then
  (M.impl_putChange_entry (x23.2.2.1, x23.2.2.2.1, x23.2.2.2.2)).bind fun r83 =>
  (gapp s11.1 ([(r83.1, (r83.2.1, r83.2.2.1, r83.2.2.2))] : List (Int × (Int × (List Int) × Int)))).bind fun xs93 =>
  some xs93
 else
  none))
 else
  some s11.1)) fun o22 =>
  some (.inl (o22, w64 (s11.2 + 1)))
 else
  some (.inr s11.1))) ([], 0)) fun o10 =>
  some o10)

noncomputable def M.laws_FnExactShortLog (aLog_0 : List (Int × (Int × (List Int) × Int))) : Option Bool :=
  (M.laws_szEntryS aLog_0 1048576).bind fun r1 =>
  (bif decide (r1 < 0) then
  some true
 else
  (M.dEntS aLog_0).bind fun r6 =>
  (M.spec_ShortLog r6).bind fun r14 =>
  (M.dEntS aLog_0).bind fun r20 =>
  (M.impl_ShortLog r20).bind fun r28 =>
  (M.laws_eqEntryS r28 r14).bind fun r36 =>
  (bif !r36 then
  some false
 else
  (M.dEntS aLog_0).bind fun r41 =>
  (M.laws_eqEntryS r20 r41).bind fun r49 =>
  (bif !r49 then
  some false
 else
  (M.markEntB r20 1).bind fun r54 =>
  Option.bind ((bif decide (r54.1 < 0) then
  some true
 else
  (M.laws_eqEntryS r28 r14).bind fun r61 =>
  some (!r61))) fun o59 =>
  (bif o59 then
  some false
 else
  (M.markEntB r28 1).bind fun r67 =>
  (M.laws_heldEntryS r67.2 1).bind fun r72 =>
  (bif decide (r72 < 0) then
  some false
 else
  (bif r72 != r67.1 then
  some false
 else
  (M.dEntS aLog_0).bind fun r78 =>
  (M.impl_ShortLog r78).bind fun r86 =>
  (M.laws_eqEntryS r86 r14).bind fun r96 =>
  (bif !r96 then
  some false
 else
  (M.laws_heldEntryS r67.2 1).bind fun r101 =>
  (bif decide (r101 < 0) then
  some false
 else
  (bif r101 != r67.1 then
  some false
 else
  some true)))))))))

end Go.Vs
