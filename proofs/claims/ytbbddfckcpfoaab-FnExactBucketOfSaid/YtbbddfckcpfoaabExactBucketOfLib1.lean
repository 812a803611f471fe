/- What the functions compute. -/
import Derived.Test.YtbbddfckcpfoaabExactBucketOfEng1
import Derived.Test.YtbbddfckcpfoaabExactBucketOfEng2
set_option linter.unusedVariables false
set_option linter.unusedSimpArgs false
namespace Go.Vs

noncomputable def M.impl_validCoords (coords_0 : List Int) : Option Bool :=
  Option.bind (loopM (fun (s2 : (Int)) => (bif decide (s2 < (coords_0.length : Int)) then
  (gidx coords_0 s2).bind fun x5 =>
  Option.bind ((bif decide (x5 < (-100)) then
  some true
 else
  some (decide (100 < x5)))) fun o11 =>
  (bif o11 then
  some (.inr (.inr false))
 else
  some (.inl (w64 (s2 + 1))))
 else
  some (.inr (.inl ())))) 0) (selim (fun t15 => some true)
   (fun t17 => some t17))

noncomputable def M.impl_ValidVector (v_0 : List Int) : Option Bool :=
  (bif (v_0.length : Int) == 4 then
  (M.impl_validCoords v_0).bind fun r2 =>
  some r2
 else
  some false)

noncomputable def M.spec_inRange (n_0 : Int) (low_1 : Int) (high_2 : Int) : Option Bool :=
  (bif decide (low_1 ≤ n_0) then
  some (decide (n_0 ≤ high_2))
 else
  some false)

noncomputable def M.spec_allIn (list_0 : List Int) (low_1 : Int) (high_2 : Int) : Option Bool :=
  Option.bind (loopM (fun (s2 : (Int)) => (bif decide (s2 < (list_0.length : Int)) then
  (gidx list_0 s2).bind fun x7 =>
  (M.spec_inRange x7 low_1 high_2).bind fun r12 =>
  (bif !r12 then
  some (.inr (.inr false))
 else
  some (.inl (w64 (s2 + 1))))
 else
  some (.inr (.inl ())))) 0) (selim (fun t17 => some true)
   (fun t19 => some t19))

noncomputable def M.spec_isVector (v_0 : List Int) : Option Bool :=
  (bif (v_0.length : Int) == 4 then
  (M.spec_allIn v_0 (-100) 100).bind fun r2 =>
  some r2
 else
  some false)

noncomputable def M.spec_toInt (b_0 : Bool) : Option Int :=
  (bif b_0 then
  some 1
 else
  some 0)

noncomputable def M.laws_equalInts (a_0 : List Int) (b_1 : List Int) : Option Bool :=
  (bif (a_0.length : Int) != (b_1.length : Int) then
  some false
 else
  Option.bind (loopM (fun (s3 : (Int)) => (bif decide (s3 < (a_0.length : Int)) then
  (gidx a_0 s3).bind fun x9 =>
  (gidx b_1 s3).bind fun x14 =>
  (bif x9 != x14 then
  some (.inr (.inr false))
 else
  some (.inl (w64 (s3 + 1))))
 else
  some (.inr (.inl ())))) 0) (selim (fun t21 => some true)
   (fun t23 => some t23)))

noncomputable def M.impl_DotOf (a_0 : List Int) (b_1 : List Int) : Option (Int × Bool) :=
  Option.bind ((M.impl_ValidVector a_0).bind fun r2 =>
  (bif !r2 then
  some true
 else
  (M.impl_ValidVector b_1).bind fun r7 =>
  some (!r7))) fun o1 =>
  (bif o1 then
  some (0, false)
 else
  Option.bind (loopM (fun (s16 : (Int) × (Int)) => (bif decide (s16.2 < 4) then
  (gidx a_0 s16.2).bind fun x22 =>
  (gidx b_1 s16.2).bind fun x27 =>
  some (.inl (w64 (s16.1 + (w64 (x22 * x27))), w64 (s16.2 + 1)))
 else
  some (.inr s16.1))) (0, 0)) fun o15 =>
  some (o15, true))

noncomputable def M.impl_validVectors (list_0 : List (List Int)) (most_1 : Int) : Option Bool :=
  Option.bind ((bif decide ((list_0.length : Int) < 1) then
  some true
 else
  some (decide (most_1 < (list_0.length : Int))))) fun o1 =>
  (bif o1 then
  some false
 else
  Option.bind (loopM (fun (s6 : (Int)) => (bif decide (s6 < (list_0.length : Int)) then
  (gidx list_0 s6).bind fun x9 =>
  (M.impl_ValidVector x9).bind fun r19 =>
  (bif !r19 then
  some (.inr (.inr false))
 else
  some (.inl (w64 (s6 + 1))))
 else
  some (.inr (.inl ())))) 0) (selim (fun t24 => some true)
   (fun t26 => some t26)))

noncomputable def M.spec_validItem (x_0 : Int × (List Int) × Int) : Option Bool :=
  (M.spec_inRange x_0.1 1 99).bind fun r7 =>
  (bif r7 then
  (M.spec_isVector x_0.2.1).bind fun r13 =>
  (bif r13 then
  (M.spec_inRange x_0.2.2 0 15).bind fun r19 =>
  some r19
 else
  some false)
 else
  some false)

noncomputable def M.spec_validStore (list_0 : List (Int × (List Int) × Int)) : Option Bool :=
  Option.bind (loopM (fun (s2 : (Int)) => (bif decide (s2 < (list_0.length : Int)) then
  Option.bind ((gidx list_0 s2).bind fun x8 =>
  (M.spec_validItem (x8.1, x8.2.1, x8.2.2)).bind fun r19 =>
  (bif !r19 then
  some true
 else
  (bif decide (0 < s2) then
  (gidx list_0 s2).bind fun x24 =>
  (gidx list_0 (w64 (s2 - 1))).bind fun x29 =>
  some (decide (x24.1 ≤ x29.1))
 else
  some false))) fun o7 =>
  (bif o7 then
  some (.inr (.inr false))
 else
  some (.inl (w64 (s2 + 1))))
 else
  some (.inr (.inl ())))) 0) (selim (fun t39 => some (decide ((list_0.length : Int) ≤ 16)))
   (fun t42 => some t42))

noncomputable def M.impl_validKey (key_0 : Int) : Option Bool :=
  (bif decide (1 ≤ key_0) then
  some (decide (key_0 ≤ 99))
 else
  some false)

noncomputable def M.impl_validTags (tags_0 : Int) : Option Bool :=
  (bif decide (0 ≤ tags_0) then
  some (decide (tags_0 ≤ 15))
 else
  some false)

noncomputable def M.impl_validItem (x_0 : Int × (List Int) × Int) : Option Bool :=
  (M.impl_validKey x_0.1).bind fun r4 =>
  (bif r4 then
  (M.impl_ValidVector x_0.2.1).bind fun r10 =>
  (bif r10 then
  (M.impl_validTags x_0.2.2).bind fun r16 =>
  some r16
 else
  some false)
 else
  some false)

noncomputable def M.impl_ValidStore (list_0 : List (Int × (List Int) × Int)) : Option Bool :=
  (bif decide (16 < (list_0.length : Int)) then
  some false
 else
  Option.bind (loopM (fun (s3 : (Int) × (Int)) => (bif decide (s3.2 < (list_0.length : Int)) then
  (gidx list_0 s3.2).bind fun x8 =>
  Option.bind ((M.impl_validItem (x8.1, x8.2.1, x8.2.2)).bind fun r30 =>
  (bif !r30 then
  some true
 else
  some (decide (x8.1 ≤ s3.1)))) fun o29 =>
  (bif o29 then
  some (.inr (.inr false))
 else
  some (.inl (x8.1, w64 (s3.2 + 1))))
 else
  some (.inr (.inl ())))) (0, 0)) (selim (fun t41 => some true)
   (fun t43 => some t43)))

end Go.Vs

namespace Go.Vs

end Go.Vs

namespace Go.Vs

noncomputable def M.laws_toIntS (a_0 : List Int) : Option ((List Int)) :=
  (gmake (a_0.length : Int) (0 : Int)).bind fun xs1 =>
  Option.bind (loopM (fun (s10 : (List Int) × (Int)) => (bif decide (s10.2 < (a_0.length : Int)) then
  (gidx a_0 s10.2).bind fun x18 =>
  (gidx s10.1 s10.2).bind fun x23 =>
  some (.inl ((s10.1.set s10.2.toNat x18), w64 (s10.2 + 1)))
 else
  some (.inr s10.1))) (xs1, 0)) fun o9 =>
  some o9

noncomputable def M.laws_eqIntS (a_0 : List Int) (b_1 : List Int) : Option Bool :=
  (bif (a_0.length : Int) != (b_1.length : Int) then
  some false
 else
  Option.bind (loopM (fun (s3 : (Int)) => (bif decide (s3 < (a_0.length : Int)) then
  (gidx a_0 s3).bind fun x9 =>
  (gidx b_1 s3).bind fun x14 =>
  (bif x9 != x14 then
  some (.inr (.inr false))
 else
  some (.inl (w64 (s3 + 1))))
 else
  some (.inr (.inl ())))) 0) (selim (fun t21 => some true)
   (fun t23 => some t23)))

noncomputable def M.laws_szIntS (a_0 : List Int) (left_1 : Int) : Option Int :=
  (bif decide ((w64 (left_1 - (a_0.length : Int))) < 0) then
  some (-1)
 else
  some (w64 (left_1 - (a_0.length : Int))))

noncomputable def M.laws_szIntSS (a_0 : List (List Int)) (left_1 : Int) : Option Int :=
  (bif decide ((w64 (left_1 - (a_0.length : Int))) < 0) then
  some (-1)
 else
  Option.bind (loopM (fun (s3 : (Int) × (Int)) => (bif decide (s3.2 < (a_0.length : Int)) then
  (gidx a_0 s3.2).bind fun x8 =>
  (M.laws_szIntS x8 s3.1).bind fun r18 =>
  (bif decide (r18 < 0) then
  some (.inr (.inr (-1)))
 else
  some (.inl (r18, w64 (s3.2 + 1))))
 else
  some (.inr (.inl s3.1)))) (w64 (left_1 - (a_0.length : Int)), 0)) (selim (fun t23 => some t23)
   (fun t25 => some t25)))

noncomputable def M.laws_eqIntSS (a_0 : List (List Int)) (b_1 : List (List Int)) : Option Bool :=
  (bif (a_0.length : Int) != (b_1.length : Int) then
  some false
 else
  Option.bind (loopM (fun (s3 : (Int)) => (bif decide (s3 < (a_0.length : Int)) then
  (gidx a_0 s3).bind fun x9 =>
  (gidx b_1 s3).bind fun x19 =>
  (M.laws_eqIntS x9 x19).bind fun r30 =>
  (bif !r30 then
  some (.inr (.inr false))
 else
  some (.inl (w64 (s3 + 1))))
 else
  some (.inr (.inl ())))) 0) (selim (fun t35 => some true)
   (fun t37 => some t37)))

noncomputable def M.laws_heldIntS (a_0 : List Int) (k_1 : Int) : Option Int :=
  Option.bind (loopM (fun (s2 : (Int) × (Int)) => (bif decide (s2.2 < (a_0.length : Int)) then
  (gidx a_0 s2.2).bind fun x7 =>
  (bif x7 != s2.1 then
  some (.inr (.inr (-1)))
 else
  some (.inl (w64 (s2.1 + 1), w64 (s2.2 + 1))))
 else
  some (.inr (.inl s2.1)))) (k_1, 0)) (selim (fun t13 => some t13)
   (fun t15 => some t15))

noncomputable def M.laws_szItem (a_0 : Int × (List Int) × Int) (left_1 : Int) : Option Int :=
  (M.laws_szIntS a_0.2.1 left_1).bind fun r7 =>
  (bif decide (r7 < 0) then
  some (-1)
 else
  some r7)

noncomputable def M.laws_szItemS (a_0 : List (Int × (List Int) × Int)) (left_1 : Int) : Option Int :=
  (bif decide ((w64 (left_1 - (a_0.length : Int))) < 0) then
  some (-1)
 else
  Option.bind (loopM (fun (s3 : (Int) × (Int)) => (bif decide (s3.2 < (a_0.length : Int)) then
  (gidx a_0 s3.2).bind fun x8 =>
  (M.laws_szItem (x8.1, x8.2.1, x8.2.2) s3.1).bind fun r19 =>
  (bif decide (r19 < 0) then
  some (.inr (.inr (-1)))
 else
  some (.inl (r19, w64 (s3.2 + 1))))
 else
  some (.inr (.inl s3.1)))) (w64 (left_1 - (a_0.length : Int)), 0)) (selim (fun t24 => some t24)
   (fun t26 => some t26)))

noncomputable def M.laws_toItem (a_0 : Int × (List Int) × Int) : Option ((Int × (List Int) × Int)) :=
  (M.laws_toIntS a_0.2.1).bind fun r26 =>
  some (a_0.1, r26, a_0.2.2)

noncomputable def M.laws_eqItem (a_0 : Int × (List Int) × Int) (b_1 : Int × (List Int) × Int) : Option Bool :=
  (bif a_0.1 != b_1.1 then
  some false
 else
  (M.laws_eqIntS a_0.2.1 b_1.2.1).bind fun r15 =>
  (bif !r15 then
  some false
 else
  (bif a_0.2.2 != b_1.2.2 then
  some false
 else
  some true)))

noncomputable def M.laws_eqItemS (a_0 : List (Int × (List Int) × Int)) (b_1 : List (Int × (List Int) × Int)) : Option Bool :=
  (bif (a_0.length : Int) != (b_1.length : Int) then
  some false
 else
  Option.bind (loopM (fun (s3 : (Int)) => (bif decide (s3 < (a_0.length : Int)) then
  (gidx a_0 s3).bind fun x9 =>
  (gidx b_1 s3).bind fun x20 =>
  (M.laws_eqItem (x9.1, x9.2.1, x9.2.2) (x20.1, x20.2.1, x20.2.2)).bind fun r32 =>
  (bif !r32 then
  some (.inr (.inr false))
 else
  some (.inl (w64 (s3 + 1))))
 else
  some (.inr (.inl ())))) 0) (selim (fun t37 => some true)
   (fun t39 => some t39)))

end Go.Vs

namespace Go.Vs

end Go.Vs

namespace Go.Vs

end Go.Vs

namespace Go.Vs

noncomputable def M.impl_keysOf (list_0 : List (Int × (List Int) × Int)) : Option ((List Int)) :=
  (gmake (list_0.length : Int) (0 : Int)).bind fun xs1 =>
  Option.bind (loopM (fun (s8 : (List Int) × (Int)) => (bif decide (s8.2 < (list_0.length : Int)) then
  (gidx list_0 s8.2).bind fun x13 =>
  (gidx s8.1 s8.2).bind fun x27 =>
  some (.inl ((s8.1.set s8.2.toNat x13.1), w64 (s8.2 + 1)))
 else
  some (.inr s8.1))) (xs1, 0)) fun o7 =>
  some o7

end Go.Vs

namespace Go.Vs

end Go.Vs

namespace Go.Vs

noncomputable def M.laws_markIntS (a_0 : List Int) (k_1 : Int) : Option (Int × (List Int)) :=
  Option.bind (loopM (fun (s2 : (List Int) × (Int) × (Int)) => (bif decide (s2.2.2 < (s2.1.length : Int)) then
  (gidx s2.1 s2.2.2).bind fun x6 =>
  some (.inl ((s2.1.set s2.2.2.toNat s2.2.1), w64 (s2.2.1 + 1), w64 (s2.2.2 + 1)))
 else
  some (.inr (s2.1, s2.2.1)))) (a_0, k_1, 0)) fun o1 =>
  some (o1.2, o1.1)

end Go.Vs

namespace Go.Vs

end Go.Vs

namespace Go.Vs

end Go.Vs

namespace Go.Vs

end Go.Vs

namespace Go.Vs

open Classical in
noncomputable def M.dItemS (a : List (Int × (List Int) × Int)) : Option (List (Int × (List Int) × Int)) :=
  if a.length ≤ 2147483648 ∧ ∀ x ∈ a, M.laws_toIntS x.2.1 = some x.2.1 then some a else none

open Classical in
noncomputable def M.dIntSS (a : List (List Int)) : Option (List (List Int)) :=
  if a.length ≤ 2147483648 ∧ ∀ x ∈ a, M.laws_toIntS x = some x then some a else none

noncomputable def M.dmarkItemS : List (Int × (List Int) × Int) → Int → Option Int
  | [], k => some k
  | x :: xs, k => (M.laws_markIntS x.2.1 (w64 (k + 1))).bind fun q => M.dmarkItemS xs (w64 (q.1 + 1))

noncomputable def M.dmarkIntSS : List (List Int) → Int → Option Int
  | [], k => some k
  | x :: xs, k => (M.laws_markIntS x k).bind fun q => M.dmarkIntSS xs q.1

noncomputable def M.markItemD (a : List (Int × (List Int) × Int)) (k : Int) : Option Int := if a.length ≤ 2147483648 then M.dmarkItemS a k else none

noncomputable def M.markIntSD (a : List (List Int)) (k : Int) : Option Int := if a.length ≤ 2147483648 then M.dmarkIntSS a k else none

theorem markItemD_some {a : List (Int × (List Int) × Int)} {k r : Int} (h : M.markItemD a k = some r) : a.length ≤ 2147483648 ∧ M.dmarkItemS a k = some r := by
  unfold M.markItemD at h; split at h
  · exact ⟨by assumption, h⟩
  · cases h
theorem markIntSD_some {a : List (List Int)} {k r : Int} (h : M.markIntSD a k = some r) : a.length ≤ 2147483648 ∧ M.dmarkIntSS a k = some r := by
  unfold M.markIntSD at h; split at h
  · exact ⟨by assumption, h⟩
  · cases h
theorem dItemS_some {a r : List (Int × (List Int) × Int)} (h : M.dItemS a = some r) : a.length ≤ 2147483648 ∧ (∀ x ∈ a, M.laws_toItem x = some x) ∧ r = a := by
  unfold M.dItemS at h
  split at h
  · rename_i hc
    refine ⟨hc.1, fun x hx => ?_, (Option.some.inj h).symm⟩
    unfold M.laws_toItem
    rw [hc.2 x hx]; rfl
  · cases h
theorem dIntSS_some {a r : List (List Int)} (h : M.dIntSS a = some r) : a.length ≤ 2147483648 ∧ (∀ x ∈ a, M.laws_toIntS x = some x) ∧ r = a := by
  unfold M.dIntSS at h
  split at h
  · rename_i hc
    exact ⟨hc.1, hc.2, (Option.some.inj h).symm⟩
  · cases h
theorem gmake_nat {α : Type} (n : Nat) (z : α) (h : n ≤ 2147483648) : gmake (n : Int) z = some (List.replicate n z) := by
  unfold gmake
  rw [if_pos (by omega)]; simp
end Go.Vs

namespace Go.Vs

end Go.Vs

namespace Go.Vs

end Go.Vs

namespace Go.Vs

end Go.Vs

namespace Go.Vs

end Go.Vs

namespace Go.Vs

end Go.Vs

namespace Go.Vs

end Go.Vs

namespace Go.Vs

noncomputable def M.spec_validPlanes (list_0 : List (List Int)) : Option Bool :=
  Option.bind (loopM (fun (s2 : (Int)) => (bif decide (s2 < (list_0.length : Int)) then
  (gidx list_0 s2).bind fun x5 =>
  (M.spec_isVector x5).bind fun r15 =>
  (bif !r15 then
  some (.inr (.inr false))
 else
  some (.inl (w64 (s2 + 1))))
 else
  some (.inr (.inl ())))) 0) (selim (fun t20 => (M.spec_inRange (list_0.length : Int) 1 6).bind fun r22 =>
  some r22)
   (fun t26 => some t26))

noncomputable def M.spec_bitsApart (a_0 : Int) (b_1 : Int) : Option Int :=
  Option.bind (loopM (fun (s2 : (Int) × (Int)) => (bif decide (0 < s2.2) then
  some (.inl (w64 (s2.1 + (s2.2.tmod 2)), w64 (s2.2.tdiv 2)))
 else
  some (.inr s2.1))) (0, gxor a_0 b_1)) fun o1 =>
  some o1

noncomputable def M.spec_dot (a_0 : List Int) (b_1 : List Int) : Option Int :=
  Option.bind (loopM (fun (s2 : (Int) × (Int)) => (bif decide (s2.2 < (a_0.length : Int)) then
  (gidx a_0 s2.2).bind fun x5 =>
  (gidx b_1 s2.2).bind fun x11 =>
  some (.inl (w64 (s2.1 + (w64 (x5 * x11))), w64 (s2.2 + 1)))
 else
  some (.inr s2.1))) (0, 0)) fun o1 =>
  some o1

noncomputable def M.spec_hashOf (planes_0 : List (List Int)) (at_1 : List Int) : Option Int :=
  Option.bind (loopM (fun (s2 : (Int) × (Int)) => (bif decide (s2.2 < (planes_0.length : Int)) then
  (gidx planes_0 s2.2).bind fun x5 =>
  (M.spec_dot x5 at_1).bind fun r15 =>
  (M.spec_toInt (decide (0 ≤ r15))).bind fun r19 =>
  some (.inl (w64 ((w64 (2 * s2.1)) + r19), w64 (s2.2 + 1)))
 else
  some (.inr s2.1))) (0, 0)) fun o1 =>
  some o1

noncomputable def M.spec_BucketOf (planes_0 : List (List Int)) (list_1 : List (Int × (List Int) × Int)) (at_2 : List Int) (bits_3 : Int) : Option ((List Int)) :=
  Option.bind ((M.spec_validPlanes planes_0).bind fun r4 =>
  (bif !r4 then
  some true
 else
  (M.spec_validStore list_1).bind fun r9 =>
  (bif !r9 then
  some true
 else
  (M.spec_isVector at_2).bind fun r14 =>
  (bif !r14 then
  some true
 else
  (M.spec_inRange bits_3 0 6).bind fun r19 =>
  some (!r19))))) fun o3 =>
  (bif o3 then
  some []
 else
  Option.bind (loopM (fun (s26 : (List Int) × (Int)) => (bif decide (s26.2 < (list_1.length : Int)) then
  Option.bind ((gidx list_1 s26.2).bind fun x32 =>
  (M.spec_hashOf planes_0 x32.2.1).bind fun r42 =>
  (M.spec_hashOf planes_0 at_2).bind fun r46 =>
  (M.spec_bitsApart r42 r46).bind fun r50 =>
  (bif decide (r50 ≤ bits_3) then
  (gidx list_1 s26.2).bind fun x55 =>
  (gapp s26.1 ([x55.1] : List Int)).bind fun xs63 =>
  some xs63
 else
  some s26.1)) fun o31 =>
  some (.inl (o31, w64 (s26.2 + 1)))
 else
  some (.inr s26.1))) (([] : List Int), 0)) fun o25 =>
  some o25)

end Go.Vs

namespace Go.Vs

noncomputable def M.impl_validHash (hash_0 : Int) : Option Bool :=
  (bif decide (0 ≤ hash_0) then
  some (decide (hash_0 ≤ 63))
 else
  some false)

noncomputable def M.math_bits_OnesCount64 (x_0 : Int) : Option Int :=
  some (gand (wk .i64 (wk .u64 ((wk .u64 ((wk .u64 ((gandk .u64 (wk .u64 ((gshr .u64 (wk .u64 ((gandk .u64 (gshr .u64 (wk .u64 ((gandk .u64 (gshr .u64 x_0 1) 6148914691236517205) + (gandk .u64 x_0 6148914691236517205))) 2) 3689348814741910323) + (gandk .u64 (wk .u64 ((gandk .u64 (gshr .u64 x_0 1) 6148914691236517205) + (gandk .u64 x_0 6148914691236517205))) 3689348814741910323))) 4) + (wk .u64 ((gandk .u64 (gshr .u64 (wk .u64 ((gandk .u64 (gshr .u64 x_0 1) 6148914691236517205) + (gandk .u64 x_0 6148914691236517205))) 2) 3689348814741910323) + (gandk .u64 (wk .u64 ((gandk .u64 (gshr .u64 x_0 1) 6148914691236517205) + (gandk .u64 x_0 6148914691236517205))) 3689348814741910323))))) 1085102592571150095) + (gshr .u64 (gandk .u64 (wk .u64 ((gshr .u64 (wk .u64 ((gandk .u64 (gshr .u64 (wk .u64 ((gandk .u64 (gshr .u64 x_0 1) 6148914691236517205) + (gandk .u64 x_0 6148914691236517205))) 2) 3689348814741910323) + (gandk .u64 (wk .u64 ((gandk .u64 (gshr .u64 x_0 1) 6148914691236517205) + (gandk .u64 x_0 6148914691236517205))) 3689348814741910323))) 4) + (wk .u64 ((gandk .u64 (gshr .u64 (wk .u64 ((gandk .u64 (gshr .u64 x_0 1) 6148914691236517205) + (gandk .u64 x_0 6148914691236517205))) 2) 3689348814741910323) + (gandk .u64 (wk .u64 ((gandk .u64 (gshr .u64 x_0 1) 6148914691236517205) + (gandk .u64 x_0 6148914691236517205))) 3689348814741910323))))) 1085102592571150095) 8))) + (gshr .u64 (wk .u64 ((gandk .u64 (wk .u64 ((gshr .u64 (wk .u64 ((gandk .u64 (gshr .u64 (wk .u64 ((gandk .u64 (gshr .u64 x_0 1) 6148914691236517205) + (gandk .u64 x_0 6148914691236517205))) 2) 3689348814741910323) + (gandk .u64 (wk .u64 ((gandk .u64 (gshr .u64 x_0 1) 6148914691236517205) + (gandk .u64 x_0 6148914691236517205))) 3689348814741910323))) 4) + (wk .u64 ((gandk .u64 (gshr .u64 (wk .u64 ((gandk .u64 (gshr .u64 x_0 1) 6148914691236517205) + (gandk .u64 x_0 6148914691236517205))) 2) 3689348814741910323) + (gandk .u64 (wk .u64 ((gandk .u64 (gshr .u64 x_0 1) 6148914691236517205) + (gandk .u64 x_0 6148914691236517205))) 3689348814741910323))))) 1085102592571150095) + (gshr .u64 (gandk .u64 (wk .u64 ((gshr .u64 (wk .u64 ((gandk .u64 (gshr .u64 (wk .u64 ((gandk .u64 (gshr .u64 x_0 1) 6148914691236517205) + (gandk .u64 x_0 6148914691236517205))) 2) 3689348814741910323) + (gandk .u64 (wk .u64 ((gandk .u64 (gshr .u64 x_0 1) 6148914691236517205) + (gandk .u64 x_0 6148914691236517205))) 3689348814741910323))) 4) + (wk .u64 ((gandk .u64 (gshr .u64 (wk .u64 ((gandk .u64 (gshr .u64 x_0 1) 6148914691236517205) + (gandk .u64 x_0 6148914691236517205))) 2) 3689348814741910323) + (gandk .u64 (wk .u64 ((gandk .u64 (gshr .u64 x_0 1) 6148914691236517205) + (gandk .u64 x_0 6148914691236517205))) 3689348814741910323))))) 1085102592571150095) 8))) 16))) + (gshr .u64 (wk .u64 ((wk .u64 ((gandk .u64 (wk .u64 ((gshr .u64 (wk .u64 ((gandk .u64 (gshr .u64 (wk .u64 ((gandk .u64 (gshr .u64 x_0 1) 6148914691236517205) + (gandk .u64 x_0 6148914691236517205))) 2) 3689348814741910323) + (gandk .u64 (wk .u64 ((gandk .u64 (gshr .u64 x_0 1) 6148914691236517205) + (gandk .u64 x_0 6148914691236517205))) 3689348814741910323))) 4) + (wk .u64 ((gandk .u64 (gshr .u64 (wk .u64 ((gandk .u64 (gshr .u64 x_0 1) 6148914691236517205) + (gandk .u64 x_0 6148914691236517205))) 2) 3689348814741910323) + (gandk .u64 (wk .u64 ((gandk .u64 (gshr .u64 x_0 1) 6148914691236517205) + (gandk .u64 x_0 6148914691236517205))) 3689348814741910323))))) 1085102592571150095) + (gshr .u64 (gandk .u64 (wk .u64 ((gshr .u64 (wk .u64 ((gandk .u64 (gshr .u64 (wk .u64 ((gandk .u64 (gshr .u64 x_0 1) 6148914691236517205) + (gandk .u64 x_0 6148914691236517205))) 2) 3689348814741910323) + (gandk .u64 (wk .u64 ((gandk .u64 (gshr .u64 x_0 1) 6148914691236517205) + (gandk .u64 x_0 6148914691236517205))) 3689348814741910323))) 4) + (wk .u64 ((gandk .u64 (gshr .u64 (wk .u64 ((gandk .u64 (gshr .u64 x_0 1) 6148914691236517205) + (gandk .u64 x_0 6148914691236517205))) 2) 3689348814741910323) + (gandk .u64 (wk .u64 ((gandk .u64 (gshr .u64 x_0 1) 6148914691236517205) + (gandk .u64 x_0 6148914691236517205))) 3689348814741910323))))) 1085102592571150095) 8))) + (gshr .u64 (wk .u64 ((gandk .u64 (wk .u64 ((gshr .u64 (wk .u64 ((gandk .u64 (gshr .u64 (wk .u64 ((gandk .u64 (gshr .u64 x_0 1) 6148914691236517205) + (gandk .u64 x_0 6148914691236517205))) 2) 3689348814741910323) + (gandk .u64 (wk .u64 ((gandk .u64 (gshr .u64 x_0 1) 6148914691236517205) + (gandk .u64 x_0 6148914691236517205))) 3689348814741910323))) 4) + (wk .u64 ((gandk .u64 (gshr .u64 (wk .u64 ((gandk .u64 (gshr .u64 x_0 1) 6148914691236517205) + (gandk .u64 x_0 6148914691236517205))) 2) 3689348814741910323) + (gandk .u64 (wk .u64 ((gandk .u64 (gshr .u64 x_0 1) 6148914691236517205) + (gandk .u64 x_0 6148914691236517205))) 3689348814741910323))))) 1085102592571150095) + (gshr .u64 (gandk .u64 (wk .u64 ((gshr .u64 (wk .u64 ((gandk .u64 (gshr .u64 (wk .u64 ((gandk .u64 (gshr .u64 x_0 1) 6148914691236517205) + (gandk .u64 x_0 6148914691236517205))) 2) 3689348814741910323) + (gandk .u64 (wk .u64 ((gandk .u64 (gshr .u64 x_0 1) 6148914691236517205) + (gandk .u64 x_0 6148914691236517205))) 3689348814741910323))) 4) + (wk .u64 ((gandk .u64 (gshr .u64 (wk .u64 ((gandk .u64 (gshr .u64 x_0 1) 6148914691236517205) + (gandk .u64 x_0 6148914691236517205))) 2) 3689348814741910323) + (gandk .u64 (wk .u64 ((gandk .u64 (gshr .u64 x_0 1) 6148914691236517205) + (gandk .u64 x_0 6148914691236517205))) 3689348814741910323))))) 1085102592571150095) 8))) 16))) 32)))) 127)

noncomputable def M.math_bits_OnesCount (x_0 : Int) : Option Int :=
  (M.math_bits_OnesCount64 x_0).bind fun r1 =>
  some r1

noncomputable def M.impl_BitsApart (a_0 : Int) (b_1 : Int) : Option Int :=
  Option.bind ((M.impl_validHash a_0).bind fun r2 =>
  (bif !r2 then
  some true
 else
  (M.impl_validHash b_1).bind fun r7 =>
  some (!r7))) fun o1 =>
  (bif o1 then
  some (-1)
 else
  (M.math_bits_OnesCount (wk .u64 (gxor a_0 b_1))).bind fun r13 =>
  some r13)

noncomputable def M.impl_ValidPlanes (list_0 : List (List Int)) : Option Bool :=
  (M.impl_validVectors list_0 6).bind fun r1 =>
  some r1

noncomputable def M.impl_validBucket (planes_0 : List (List Int)) (list_1 : List (Int × (List Int) × Int)) (at_2 : List Int) (most_3 : Int) : Option Bool :=
  (M.impl_ValidPlanes planes_0).bind fun r1 =>
  (bif r1 then
  (M.impl_ValidStore list_1).bind fun r6 =>
  (bif r6 then
  (M.impl_ValidVector at_2).bind fun r11 =>
  (bif r11 then
  (bif decide (0 ≤ most_3) then
  some (decide (most_3 ≤ 6))
 else
  some false)
 else
  some false)
 else
  some false)
 else
  some false)

noncomputable def M.impl_HashOf (planes_0 : List (List Int)) (at_1 : List Int) : Option Int :=
  Option.bind ((M.impl_ValidPlanes planes_0).bind fun r2 =>
  (bif !r2 then
  some true
 else
  (M.impl_ValidVector at_1).bind fun r7 =>
  some (!r7))) fun o1 =>
  (bif o1 then
  some (-1)
 else
  Option.bind (loopM (fun (s14 : (Int) × (Int)) => (bif decide (s14.2 < (planes_0.length : Int)) then
  Option.bind ((gidx planes_0 s14.2).bind fun x18 =>
  (M.impl_DotOf x18 at_1).bind fun r28 =>
  (bif decide (0 ≤ r28.1) then
  some (gor (gshl .i64 s14.1 1) 1)
 else
  some (gshl .i64 s14.1 1))) fun o17 =>
  some (.inl (o17, w64 (s14.2 + 1)))
 else
  some (.inr s14.1))) (0, 0)) fun o13 =>
  some o13)

noncomputable def M.impl_bucketItems_1__p3__p_SSint__p3 (x_0 : Int × (List Int) × Int) (p_1 : Int) (p_2 : List (List Int)) (p_3 : Int) : Option Bool :=
  (M.impl_HashOf p_2 x_0.2.1).bind fun r6 =>
  (M.impl_BitsApart p_1 r6).bind fun r9 =>
  some (decide (r9 ≤ p_3))

noncomputable def M.impl_itemsThat__impl_bucketItems_1 (list_0 : List (Int × (List Int) × Int)) (chosen_1_0 : Int) (chosen_1_1 : List (List Int)) (chosen_1_2 : Int) : Option ((List (Int × (List Int) × Int))) :=
  Option.bind (loopM (fun (s2 : (List (Int × (List Int) × Int)) × (Int)) => (bif decide (s2.2 < (list_0.length : Int)) then
  Option.bind ((gidx list_0 s2.2).bind fun x8 =>
  (M.impl_bucketItems_1__p3__p_SSint__p3 (x8.1, x8.2.1, x8.2.2) chosen_1_0 chosen_1_1 chosen_1_2).bind fun r22 =>
  (bif r22 then
  (gapp s2.1 ([(x8.1, x8.2.1, x8.2.2)] : List (Int × (List Int) × Int))).bind fun xs30 =>
  some xs30
 else
  some s2.1)) fun o7 =>
  some (.inl (o7, w64 (s2.2 + 1)))
 else
  some (.inr s2.1))) ([], 0)) fun o1 =>
  some o1

noncomputable def M.impl_bucketItems (planes_0 : List (List Int)) (list_1 : List (Int × (List Int) × Int)) (at_2 : List Int) (most_3 : Int) : Option ((List (Int × (List Int) × Int))) :=
  (M.impl_HashOf planes_0 at_2).bind fun r6 =>
  (M.impl_itemsThat__impl_bucketItems_1 list_1 r6 planes_0 most_3).bind fun r13 =>
  some r13

noncomputable def M.impl_BucketOf (planes_0 : List (List Int)) (list_1 : List (Int × (List Int) × Int)) (at_2 : List Int) (bits_3 : Int) : Option ((List Int)) :=
  (M.impl_validBucket planes_0 list_1 at_2 bits_3).bind fun r1 =>
  (bif !r1 then
  some []
 else
  (M.impl_bucketItems planes_0 list_1 at_2 bits_3).bind fun r6 =>
  (M.impl_keysOf r6).bind fun r14 =>
  some r14)

end Go.Vs

namespace Go.Vs

noncomputable def M.laws_FnExactBucketOf (aPlanes_0 : List (List Int)) (aList_1 : List (Int × (List Int) × Int)) (aAt_2 : List Int) (aBits_3 : Int) : Option Bool :=
  (bif decide (1048576 < (aAt_2.length : Int)) then
  some true
 else
  (M.laws_szIntSS aPlanes_0 1048576).bind fun r2 =>
  (bif decide (r2 < 0) then
  some true
 else
  (M.laws_szItemS aList_1 r2).bind fun r7 =>
  (bif decide (r7 < 0) then
  some true
 else
  (M.dIntSS aPlanes_0).bind fun r12 =>
  (M.dItemS aList_1).bind fun r20 =>
  (M.laws_toIntS aAt_2).bind fun r28 =>
  (M.spec_BucketOf r12 r20 r28 aBits_3).bind fun r37 =>
  (M.dIntSS aPlanes_0).bind fun r43 =>
  (M.dItemS aList_1).bind fun r51 =>
  (M.laws_toIntS aAt_2).bind fun r59 =>
  (M.impl_BucketOf r43 r51 r59 aBits_3).bind fun r66 =>
  (M.laws_eqIntS r66 r37).bind fun r73 =>
  (bif !r73 then
  some false
 else
  (M.dIntSS aPlanes_0).bind fun r78 =>
  (M.laws_eqIntSS r43 r78).bind fun r86 =>
  (bif !r86 then
  some false
 else
  (M.dItemS aList_1).bind fun r91 =>
  (M.laws_eqItemS r51 r91).bind fun r99 =>
  (bif !r99 then
  some false
 else
  (M.laws_toIntS aAt_2).bind fun r104 =>
  (M.laws_eqIntS r59 r104).bind fun r113 =>
  (bif !r113 then
  some false
 else
  (M.markIntSD r43 1).bind fun r118 =>
  (M.markItemD r51 r118).bind fun r122 =>
  (M.laws_markIntS r59 r122).bind fun r126 =>
  Option.bind ((bif decide (r126.1 < 0) then
  some true
 else
  (M.laws_eqIntS r66 r37).bind fun r133 =>
  some (!r133))) fun o131 =>
  (bif o131 then
  some false
 else
  (M.laws_markIntS r66 1).bind fun r139 =>
  (M.laws_heldIntS r139.2 1).bind fun r144 =>
  (bif decide (r144 < 0) then
  some false
 else
  (bif r144 != r139.1 then
  some false
 else
  (M.dIntSS aPlanes_0).bind fun r150 =>
  (M.dItemS aList_1).bind fun r158 =>
  (M.laws_toIntS aAt_2).bind fun r166 =>
  (M.impl_BucketOf r150 r158 r166 aBits_3).bind fun r175 =>
  (M.laws_eqIntS r175 r37).bind fun r186 =>
  (bif !r186 then
  some false
 else
  (M.laws_heldIntS r139.2 1).bind fun r193 =>
  (bif decide (r193 < 0) then
  some false
 else
  (bif r193 != r139.1 then
  some false
 else
  some true)))))))))))))

end Go.Vs

namespace Go.Vs

end Go.Vs

namespace Go.Vs

end Go.Vs

namespace Go.Vs

end Go.Vs

namespace Go.Vs

end Go.Vs

namespace Go.Vs

end Go.Vs

namespace Go.Vs

end Go.Vs

namespace Go.Vs

end Go.Vs

namespace Go.Vs

end Go.Vs

namespace Go.Vs

end Go.Vs

namespace Go.Vs

end Go.Vs

namespace Go.Vs

end Go.Vs

namespace Go.Vs

end Go.Vs
