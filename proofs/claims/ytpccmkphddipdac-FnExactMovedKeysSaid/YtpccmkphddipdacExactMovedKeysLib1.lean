/- What the functions compute. -/
import Derived.Test.YtpccmkphddipdacExactMovedKeysEng1
import Derived.Test.YtpccmkphddipdacExactMovedKeysEng2
set_option linter.unusedVariables false
set_option linter.unusedSimpArgs false
namespace Go.Vs

noncomputable def M.impl_validCoords (coords_0 : List Int) : Option Bool :=
  Option.bind (loopM (fun (s2 : (Int)) => (bif decide (s2 < (coords_0.length : Int)) then
  (gidx coords_0 s2).bind fun x5 =>
  Option.bind ((bif decide (x5 < (-100)) then
  some true
 else
  some (decide (100 < x5)))) fun o11 =>
  (bif o11 then
  some (.inr (.inr false))
 else
  some (.inl (w64 (s2 + 1))))
 else
  some (.inr (.inl ())))) 0) (selim (fun t15 => some true)
   (fun t17 => some t17))

noncomputable def M.impl_ValidVector (v_0 : List Int) : Option Bool :=
  (bif (v_0.length : Int) == 4 then
  (M.impl_validCoords v_0).bind fun r2 =>
  some r2
 else
  some false)

noncomputable def M.spec_inRange (n_0 : Int) (low_1 : Int) (high_2 : Int) : Option Bool :=
  (bif decide (low_1 ≤ n_0) then
  some (decide (n_0 ≤ high_2))
 else
  some false)

noncomputable def M.spec_allIn (list_0 : List Int) (low_1 : Int) (high_2 : Int) : Option Bool :=
  Option.bind (loopM (fun (s2 : (Int)) => (bif decide (s2 < (list_0.length : Int)) then
  (gidx list_0 s2).bind fun x7 =>
  (M.spec_inRange x7 low_1 high_2).bind fun r12 =>
  (bif !r12 then
  some (.inr (.inr false))
 else
  some (.inl (w64 (s2 + 1))))
 else
  some (.inr (.inl ())))) 0) (selim (fun t17 => some true)
   (fun t19 => some t19))

noncomputable def M.spec_isVector (v_0 : List Int) : Option Bool :=
  (bif (v_0.length : Int) == 4 then
  (M.spec_allIn v_0 (-100) 100).bind fun r2 =>
  some r2
 else
  some false)

noncomputable def M.laws_equalInts (a_0 : List Int) (b_1 : List Int) : Option Bool :=
  (bif (a_0.length : Int) != (b_1.length : Int) then
  some false
 else
  Option.bind (loopM (fun (s3 : (Int)) => (bif decide (s3 < (a_0.length : Int)) then
  (gidx a_0 s3).bind fun x9 =>
  (gidx b_1 s3).bind fun x14 =>
  (bif x9 != x14 then
  some (.inr (.inr false))
 else
  some (.inl (w64 (s3 + 1))))
 else
  some (.inr (.inl ())))) 0) (selim (fun t21 => some true)
   (fun t23 => some t23)))

noncomputable def M.spec_validItem (x_0 : Int × (List Int) × Int) : Option Bool :=
  (M.spec_inRange x_0.1 1 99).bind fun r7 =>
  (bif r7 then
  (M.spec_isVector x_0.2.1).bind fun r13 =>
  (bif r13 then
  (M.spec_inRange x_0.2.2 0 15).bind fun r19 =>
  some r19
 else
  some false)
 else
  some false)

noncomputable def M.spec_validStore (list_0 : List (Int × (List Int) × Int)) : Option Bool :=
  Option.bind (loopM (fun (s2 : (Int)) => (bif decide (s2 < (list_0.length : Int)) then
  Option.bind ((gidx list_0 s2).bind fun x8 =>
  (M.spec_validItem (x8.1, x8.2.1, x8.2.2)).bind fun r19 =>
  (bif !r19 then
  some true
 else
  (bif decide (0 < s2) then
  (gidx list_0 s2).bind fun x24 =>
  (gidx list_0 (w64 (s2 - 1))).bind fun x29 =>
  some (decide (x24.1 ≤ x29.1))
 else
  some false))) fun o7 =>
  (bif o7 then
  some (.inr (.inr false))
 else
  some (.inl (w64 (s2 + 1))))
 else
  some (.inr (.inl ())))) 0) (selim (fun t39 => some (decide ((list_0.length : Int) ≤ 16)))
   (fun t42 => some t42))

noncomputable def M.impl_validKey (key_0 : Int) : Option Bool :=
  (bif decide (1 ≤ key_0) then
  some (decide (key_0 ≤ 99))
 else
  some false)

noncomputable def M.impl_validTags (tags_0 : Int) : Option Bool :=
  (bif decide (0 ≤ tags_0) then
  some (decide (tags_0 ≤ 15))
 else
  some false)

noncomputable def M.impl_validItem (x_0 : Int × (List Int) × Int) : Option Bool :=
  (M.impl_validKey x_0.1).bind fun r4 =>
  (bif r4 then
  (M.impl_ValidVector x_0.2.1).bind fun r10 =>
  (bif r10 then
  (M.impl_validTags x_0.2.2).bind fun r16 =>
  some r16
 else
  some false)
 else
  some false)

noncomputable def M.impl_ValidStore (list_0 : List (Int × (List Int) × Int)) : Option Bool :=
  (bif decide (16 < (list_0.length : Int)) then
  some false
 else
  Option.bind (loopM (fun (s3 : (Int) × (Int)) => (bif decide (s3.2 < (list_0.length : Int)) then
  (gidx list_0 s3.2).bind fun x8 =>
  Option.bind ((M.impl_validItem (x8.1, x8.2.1, x8.2.2)).bind fun r30 =>
  (bif !r30 then
  some true
 else
  some (decide (x8.1 ≤ s3.1)))) fun o29 =>
  (bif o29 then
  some (.inr (.inr false))
 else
  some (.inl (x8.1, w64 (s3.2 + 1))))
 else
  some (.inr (.inl ())))) (0, 0)) (selim (fun t41 => some true)
   (fun t43 => some t43)))

end Go.Vs

namespace Go.Vs

end Go.Vs

namespace Go.Vs

noncomputable def M.laws_toIntS (a_0 : List Int) : Option ((List Int)) :=
  (gmake (a_0.length : Int) (0 : Int)).bind fun xs1 =>
  Option.bind (loopM (fun (s10 : (List Int) × (Int)) => (bif decide (s10.2 < (a_0.length : Int)) then
  (gidx a_0 s10.2).bind fun x18 =>
  (gidx s10.1 s10.2).bind fun x23 =>
  some (.inl ((s10.1.set s10.2.toNat x18), w64 (s10.2 + 1)))
 else
  some (.inr s10.1))) (xs1, 0)) fun o9 =>
  some o9

noncomputable def M.laws_eqIntS (a_0 : List Int) (b_1 : List Int) : Option Bool :=
  (bif (a_0.length : Int) != (b_1.length : Int) then
  some false
 else
  Option.bind (loopM (fun (s3 : (Int)) => (bif decide (s3 < (a_0.length : Int)) then
  (gidx a_0 s3).bind fun x9 =>
  (gidx b_1 s3).bind fun x14 =>
  (bif x9 != x14 then
  some (.inr (.inr false))
 else
  some (.inl (w64 (s3 + 1))))
 else
  some (.inr (.inl ())))) 0) (selim (fun t21 => some true)
   (fun t23 => some t23)))

noncomputable def M.laws_szIntS (a_0 : List Int) (left_1 : Int) : Option Int :=
  (bif decide ((w64 (left_1 - (a_0.length : Int))) < 0) then
  some (-1)
 else
  some (w64 (left_1 - (a_0.length : Int))))

noncomputable def M.laws_heldIntS (a_0 : List Int) (k_1 : Int) : Option Int :=
  Option.bind (loopM (fun (s2 : (Int) × (Int)) => (bif decide (s2.2 < (a_0.length : Int)) then
  (gidx a_0 s2.2).bind fun x7 =>
  (bif x7 != s2.1 then
  some (.inr (.inr (-1)))
 else
  some (.inl (w64 (s2.1 + 1), w64 (s2.2 + 1))))
 else
  some (.inr (.inl s2.1)))) (k_1, 0)) (selim (fun t13 => some t13)
   (fun t15 => some t15))

noncomputable def M.laws_szItem (a_0 : Int × (List Int) × Int) (left_1 : Int) : Option Int :=
  (M.laws_szIntS a_0.2.1 left_1).bind fun r7 =>
  (bif decide (r7 < 0) then
  some (-1)
 else
  some r7)

noncomputable def M.laws_szItemS (a_0 : List (Int × (List Int) × Int)) (left_1 : Int) : Option Int :=
  (bif decide ((w64 (left_1 - (a_0.length : Int))) < 0) then
  some (-1)
 else
  Option.bind (loopM (fun (s3 : (Int) × (Int)) => (bif decide (s3.2 < (a_0.length : Int)) then
  (gidx a_0 s3.2).bind fun x8 =>
  (M.laws_szItem (x8.1, x8.2.1, x8.2.2) s3.1).bind fun r19 =>
  (bif decide (r19 < 0) then
  some (.inr (.inr (-1)))
 else
  some (.inl (r19, w64 (s3.2 + 1))))
 else
  some (.inr (.inl s3.1)))) (w64 (left_1 - (a_0.length : Int)), 0)) (selim (fun t24 => some t24)
   (fun t26 => some t26)))

noncomputable def M.laws_toItem (a_0 : Int × (List Int) × Int) : Option ((Int × (List Int) × Int)) :=
  (M.laws_toIntS a_0.2.1).bind fun r26 =>
  some (a_0.1, r26, a_0.2.2)

noncomputable def M.laws_eqItem (a_0 : Int × (List Int) × Int) (b_1 : Int × (List Int) × Int) : Option Bool :=
  (bif a_0.1 != b_1.1 then
  some false
 else
  (M.laws_eqIntS a_0.2.1 b_1.2.1).bind fun r15 =>
  (bif !r15 then
  some false
 else
  (bif a_0.2.2 != b_1.2.2 then
  some false
 else
  some true)))

noncomputable def M.laws_eqItemS (a_0 : List (Int × (List Int) × Int)) (b_1 : List (Int × (List Int) × Int)) : Option Bool :=
  (bif (a_0.length : Int) != (b_1.length : Int) then
  some false
 else
  Option.bind (loopM (fun (s3 : (Int)) => (bif decide (s3 < (a_0.length : Int)) then
  (gidx a_0 s3).bind fun x9 =>
  (gidx b_1 s3).bind fun x20 =>
  (M.laws_eqItem (x9.1, x9.2.1, x9.2.2) (x20.1, x20.2.1, x20.2.2)).bind fun r32 =>
  (bif !r32 then
  some (.inr (.inr false))
 else
  some (.inl (w64 (s3 + 1))))
 else
  some (.inr (.inl ())))) 0) (selim (fun t37 => some true)
   (fun t39 => some t39)))

end Go.Vs

namespace Go.Vs

end Go.Vs

namespace Go.Vs

end Go.Vs

namespace Go.Vs

noncomputable def M.impl_keysOf (list_0 : List (Int × (List Int) × Int)) : Option ((List Int)) :=
  (gmake (list_0.length : Int) (0 : Int)).bind fun xs1 =>
  Option.bind (loopM (fun (s8 : (List Int) × (Int)) => (bif decide (s8.2 < (list_0.length : Int)) then
  (gidx list_0 s8.2).bind fun x13 =>
  (gidx s8.1 s8.2).bind fun x27 =>
  some (.inl ((s8.1.set s8.2.toNat x13.1), w64 (s8.2 + 1)))
 else
  some (.inr s8.1))) (xs1, 0)) fun o7 =>
  some o7

end Go.Vs

namespace Go.Vs

end Go.Vs

namespace Go.Vs

noncomputable def M.laws_markIntS (a_0 : List Int) (k_1 : Int) : Option (Int × (List Int)) :=
  Option.bind (loopM (fun (s2 : (List Int) × (Int) × (Int)) => (bif decide (s2.2.2 < (s2.1.length : Int)) then
  (gidx s2.1 s2.2.2).bind fun x6 =>
  some (.inl ((s2.1.set s2.2.2.toNat s2.2.1), w64 (s2.2.1 + 1), w64 (s2.2.2 + 1)))
 else
  some (.inr (s2.1, s2.2.1)))) (a_0, k_1, 0)) fun o1 =>
  some (o1.2, o1.1)

end Go.Vs

namespace Go.Vs

end Go.Vs

namespace Go.Vs

end Go.Vs

namespace Go.Vs

end Go.Vs

namespace Go.Vs

open Classical in
noncomputable def M.dItemS (a : List (Int × (List Int) × Int)) : Option (List (Int × (List Int) × Int)) :=
  if a.length ≤ 2147483648 ∧ ∀ x ∈ a, M.laws_toIntS x.2.1 = some x.2.1 then some a else none

noncomputable def M.dmarkItemS : List (Int × (List Int) × Int) → Int → Option Int
  | [], k => some k
  | x :: xs, k => (M.laws_markIntS x.2.1 (w64 (k + 1))).bind fun q => M.dmarkItemS xs (w64 (q.1 + 1))

noncomputable def M.markItemD (a : List (Int × (List Int) × Int)) (k : Int) : Option Int := if a.length ≤ 2147483648 then M.dmarkItemS a k else none

theorem markItemD_some {a : List (Int × (List Int) × Int)} {k r : Int} (h : M.markItemD a k = some r) : a.length ≤ 2147483648 ∧ M.dmarkItemS a k = some r := by
  unfold M.markItemD at h; split at h
  · exact ⟨by assumption, h⟩
  · cases h
theorem dItemS_some {a r : List (Int × (List Int) × Int)} (h : M.dItemS a = some r) : a.length ≤ 2147483648 ∧ (∀ x ∈ a, M.laws_toItem x = some x) ∧ r = a := by
  unfold M.dItemS at h
  split at h
  · rename_i hc
    refine ⟨hc.1, fun x hx => ?_, (Option.some.inj h).symm⟩
    unfold M.laws_toItem
    rw [hc.2 x hx]; rfl
  · cases h
theorem gmake_nat {α : Type} (n : Nat) (z : α) (h : n ≤ 2147483648) : gmake (n : Int) z = some (List.replicate n z) := by
  unfold gmake
  rw [if_pos (by omega)]; simp
end Go.Vs

namespace Go.Vs

end Go.Vs

namespace Go.Vs

end Go.Vs

namespace Go.Vs

end Go.Vs

namespace Go.Vs

end Go.Vs

namespace Go.Vs

end Go.Vs

namespace Go.Vs

end Go.Vs

namespace Go.Vs

end Go.Vs

namespace Go.Vs

end Go.Vs

namespace Go.Vs

end Go.Vs

namespace Go.Vs

end Go.Vs

namespace Go.Vs

end Go.Vs

namespace Go.Vs

end Go.Vs

namespace Go.Vs

noncomputable def M.spec_shardOf (key_0 : Int) (shards_1 : Int) : Option Int :=
  some (w64 ((w64 (((w64 (389 * key_0)).tmod 1009) * shards_1)).tdiv 1009))

noncomputable def M.spec_MovedKeys (list_0 : List (Int × (List Int) × Int)) (from_1 : Int) (to_2 : Int) : Option ((List Int)) :=
  Option.bind ((M.spec_validStore list_0).bind fun r4 =>
  (bif !r4 then
  some true
 else
  (M.spec_inRange from_1 1 8).bind fun r9 =>
  (bif !r9 then
  some true
 else
  (M.spec_inRange to_2 1 8).bind fun r14 =>
  some (!r14)))) fun o3 =>
  (bif o3 then
  some []
 else
  Option.bind (loopM (fun (s21 : (List Int) × (Int)) => (bif decide (s21.2 < (list_0.length : Int)) then
  Option.bind ((gidx list_0 s21.2).bind fun x27 =>
  (M.spec_shardOf x27.1 from_1).bind fun r33 =>
  (gidx list_0 s21.2).bind fun x36 =>
  (M.spec_shardOf x36.1 to_2).bind fun r43 =>
  (bif r33 != r43 then
  (gidx list_0 s21.2).bind fun x48 =>
  (gapp s21.1 ([x48.1] : List Int)).bind fun xs56 =>
  some xs56
 else
  some s21.1)) fun o26 =>
  some (.inl (o26, w64 (s21.2 + 1)))
 else
  some (.inr s21.1))) (([] : List Int), 0)) fun o20 =>
  some o20)

end Go.Vs

namespace Go.Vs

end Go.Vs

namespace Go.Vs

end Go.Vs

namespace Go.Vs

end Go.Vs

namespace Go.Vs

end Go.Vs

namespace Go.Vs

end Go.Vs

namespace Go.Vs

end Go.Vs

namespace Go.Vs

end Go.Vs

namespace Go.Vs

end Go.Vs

namespace Go.Vs

noncomputable def M.impl_validShards (shards_0 : Int) : Option Bool :=
  (bif decide (1 ≤ shards_0) then
  some (decide (shards_0 ≤ 8))
 else
  some false)

noncomputable def M.impl_ShardOf (key_0 : Int) (shards_1 : Int) : Option Int :=
  Option.bind ((M.impl_validKey key_0).bind fun r2 =>
  (bif !r2 then
  some true
 else
  (M.impl_validShards shards_1).bind fun r7 =>
  some (!r7))) fun o1 =>
  (bif o1 then
  some (-1)
 else
  some (w64 ((w64 (((w64 (389 * key_0)).tmod 1009) * shards_1)).tdiv 1009)))

noncomputable def M.impl_MovedKeys_1__p3__p3 (x_0 : Int × (List Int) × Int) (p_1 : Int) (p_2 : Int) : Option Bool :=
  (M.impl_ShardOf x_0.1 p_1).bind fun r5 =>
  (M.impl_ShardOf x_0.1 p_2).bind fun r11 =>
  some (r5 != r11)

noncomputable def M.impl_itemsThat__impl_MovedKeys_1 (list_0 : List (Int × (List Int) × Int)) (chosen_1_0 : Int) (chosen_1_1 : Int) : Option ((List (Int × (List Int) × Int))) :=
  Option.bind (loopM (fun (s2 : (List (Int × (List Int) × Int)) × (Int)) => (bif decide (s2.2 < (list_0.length : Int)) then
  Option.bind ((gidx list_0 s2.2).bind fun x8 =>
  (M.impl_MovedKeys_1__p3__p3 (x8.1, x8.2.1, x8.2.2) chosen_1_0 chosen_1_1).bind fun r22 =>
  (bif r22 then
  (gapp s2.1 ([(x8.1, x8.2.1, x8.2.2)] : List (Int × (List Int) × Int))).bind fun xs30 =>
  some xs30
 else
  some s2.1)) fun o7 =>
  some (.inl (o7, w64 (s2.2 + 1)))
 else
  some (.inr s2.1))) ([], 0)) fun o1 =>
  some o1

noncomputable def M.impl_MovedKeys (list_0 : List (Int × (List Int) × Int)) (from_1 : Int) (to_2 : Int) : Option ((List Int)) :=
  Option.bind ((M.impl_ValidStore list_0).bind fun r6 =>
  (bif !r6 then
  some true
 else
  (M.impl_validShards from_1).bind fun r12 =>
  (bif !r12 then
  some true
 else
  (M.impl_validShards to_2).bind fun r18 =>
  some (!r18)))) fun o5 =>
  (bif o5 then
  some []
 else
  (M.impl_itemsThat__impl_MovedKeys_1 list_0 from_1 to_2).bind fun r24 =>
  (M.impl_keysOf r24).bind fun r32 =>
  some r32)

noncomputable def M.laws_FnExactMovedKeys (aList_0 : List (Int × (List Int) × Int)) (aFrom_1 : Int) (aTo_2 : Int) : Option Bool :=
  (M.laws_szItemS aList_0 1048576).bind fun r1 =>
  (bif decide (r1 < 0) then
  some true
 else
  (M.dItemS aList_0).bind fun r6 =>
  (M.spec_MovedKeys r6 aFrom_1 aTo_2).bind fun r14 =>
  (M.dItemS aList_0).bind fun r20 =>
  (M.impl_MovedKeys r20 aFrom_1 aTo_2).bind fun r28 =>
  (M.laws_eqIntS r28 r14).bind fun r35 =>
  (bif !r35 then
  some false
 else
  (M.dItemS aList_0).bind fun r40 =>
  (M.laws_eqItemS r20 r40).bind fun r48 =>
  (bif !r48 then
  some false
 else
  (M.markItemD r20 1).bind fun r53 =>
  Option.bind ((bif decide (r53 < 0) then
  some true
 else
  (M.laws_eqIntS r28 r14).bind fun r59 =>
  some (!r59))) fun o57 =>
  (bif o57 then
  some false
 else
  (M.laws_markIntS r28 1).bind fun r65 =>
  (M.laws_heldIntS r65.2 1).bind fun r70 =>
  (bif decide (r70 < 0) then
  some false
 else
  (bif r70 != r65.1 then
  some false
 else
  (M.dItemS aList_0).bind fun r76 =>
  (M.impl_MovedKeys r76 aFrom_1 aTo_2).bind fun r84 =>
  (M.laws_eqIntS r84 r14).bind fun r95 =>
  (bif !r95 then
  some false
 else
  (M.laws_heldIntS r65.2 1).bind fun r102 =>
  (bif decide (r102 < 0) then
  some false
 else
  (bif r102 != r65.1 then
  some false
 else
  some true)))))))))

end Go.Vs
