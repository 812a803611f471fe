/- What the functions compute. -/
import Derived.Test.YtdjjikmfkejdiaeExactProbeOrderEng1
import Derived.Test.YtdjjikmfkejdiaeExactProbeOrderEng2
set_option linter.unusedVariables false
set_option linter.unusedSimpArgs false
namespace Go.Vs

noncomputable def M.impl_validCoords (coords_0 : List Int) : Option Bool :=
  Option.bind (loopM (fun (s2 : (Int)) => (bif decide (s2 < (coords_0.length : Int)) then
  (gidx coords_0 s2).bind fun x5 =>
  Option.bind ((bif decide (x5 < (-100)) then
  some true
 else
  some (decide (100 < x5)))) fun o11 =>
  (bif o11 then
  some (.inr (.inr false))
 else
  some (.inl (w64 (s2 + 1))))
 else
  some (.inr (.inl ())))) 0) (selim (fun t15 => some true)
   (fun t17 => some t17))

noncomputable def M.impl_ValidVector (v_0 : List Int) : Option Bool :=
  (bif (v_0.length : Int) == 4 then
  (M.impl_validCoords v_0).bind fun r2 =>
  some r2
 else
  some false)

noncomputable def M.spec_inRange (n_0 : Int) (low_1 : Int) (high_2 : Int) : Option Bool :=
  (bif decide (low_1 ≤ n_0) then
  some (decide (n_0 ≤ high_2))
 else
  some false)

noncomputable def M.spec_allIn (list_0 : List Int) (low_1 : Int) (high_2 : Int) : Option Bool :=
  Option.bind (loopM (fun (s2 : (Int)) => (bif decide (s2 < (list_0.length : Int)) then
  (gidx list_0 s2).bind fun x7 =>
  (M.spec_inRange x7 low_1 high_2).bind fun r12 =>
  (bif !r12 then
  some (.inr (.inr false))
 else
  some (.inl (w64 (s2 + 1))))
 else
  some (.inr (.inl ())))) 0) (selim (fun t17 => some true)
   (fun t19 => some t19))

noncomputable def M.spec_isVector (v_0 : List Int) : Option Bool :=
  (bif (v_0.length : Int) == 4 then
  (M.spec_allIn v_0 (-100) 100).bind fun r2 =>
  some r2
 else
  some false)

noncomputable def M.impl_distanceOf (kind_0 : Int) (gaps_1 : List Int) : Option Int :=
  Option.bind (loopM (fun (s8 : (Int) × (Int)) => (bif decide (s8.2 < 4) then
  Option.bind ((gidx gaps_1 s8.2).bind fun x13 =>
  (bif kind_0 == 1 then
  some (.inl (w64 (s8.1 + x13)))
 else
  (bif kind_0 == 2 then
  some (.inl (max s8.1 x13))
 else
  (bif kind_0 == 3 then
  some (.inl (w64 (s8.1 + (w64 (x13 * x13)))))
 else
  (bif kind_0 == 4 then
  some (.inl (w64 (s8.1 + (min x13 1))))
 else
  some (.inr (-1))))))) (selim (fun t19 => some (.inl (t19, w64 (s8.2 + 1))))
   (fun t21 => some (.inr (.inr t21))))
 else
  some (.inr (.inl s8.1)))) (0, 0)) (selim (fun t23 => some t23)
   (fun t25 => some t25))

noncomputable def M.impl_gapsOf (a_0 : List Int) (b_1 : List Int) : Option ((List Int)) :=
  Option.bind (loopM (fun (s32 : (List Int) × (Int)) => (bif decide (s32.2 < 4) then
  (gidx a_0 s32.2).bind fun x47 =>
  (gidx b_1 s32.2).bind fun x50 =>
  (gidx b_1 s32.2).bind fun x53 =>
  (gidx a_0 s32.2).bind fun x56 =>
  (gidx s32.1 s32.2).bind fun x60 =>
  some (.inl ((s32.1.set s32.2.toNat (max (w64 (x47 - x50)) (w64 (x53 - x56)))), w64 (s32.2 + 1)))
 else
  some (.inr s32.1))) ((List.replicate 4 0), 0)) fun o31 =>
  some o31

noncomputable def M.impl_Distance (kind_0 : Int) (a_1 : List Int) (b_2 : List Int) : Option Int :=
  Option.bind ((M.impl_ValidVector a_1).bind fun r2 =>
  (bif !r2 then
  some true
 else
  (M.impl_ValidVector b_2).bind fun r7 =>
  some (!r7))) fun o1 =>
  (bif o1 then
  some (-1)
 else
  (garr 4 a_1).bind fun xs15 =>
  (garr 4 b_2).bind fun xs22 =>
  (M.impl_gapsOf (List.take 4 a_1) (List.take 4 b_2)).bind fun r29 =>
  (M.impl_distanceOf kind_0 r29).bind fun r33 =>
  some r33)

noncomputable def M.spec_size (n_0 : Int) : Option Int :=
  some (max n_0 (w64 (0 - n_0)))

noncomputable def M.spec_toInt (b_0 : Bool) : Option Int :=
  (bif b_0 then
  some 1
 else
  some 0)

noncomputable def M.spec_dist (kind_0 : Int) (a_1 : List Int) (b_2 : List Int) : Option Int :=
  Option.bind (loopM (fun (s2 : (Int) × (Int)) => (bif decide (s2.2 < (a_1.length : Int)) then
  Option.bind ((gidx a_1 s2.2).bind fun x9 =>
  (gidx b_2 s2.2).bind fun x14 =>
  (M.spec_size (w64 (x9 - x14))).bind fun r20 =>
  (bif kind_0 == 1 then
  some (w64 (s2.1 + r20))
 else
  (bif kind_0 == 2 then
  some (max s2.1 r20)
 else
  (bif kind_0 == 3 then
  some (w64 (s2.1 + (w64 (r20 * r20))))
 else
  (M.spec_toInt (decide (0 < r20))).bind fun r27 =>
  some (w64 (s2.1 + r27)))))) fun o8 =>
  some (.inl (o8, w64 (s2.2 + 1)))
 else
  some (.inr s2.1))) (0, 0)) fun o1 =>
  some o1

noncomputable def M.laws_equalInts (a_0 : List Int) (b_1 : List Int) : Option Bool :=
  (bif (a_0.length : Int) != (b_1.length : Int) then
  some false
 else
  Option.bind (loopM (fun (s3 : (Int)) => (bif decide (s3 < (a_0.length : Int)) then
  (gidx a_0 s3).bind fun x9 =>
  (gidx b_1 s3).bind fun x14 =>
  (bif x9 != x14 then
  some (.inr (.inr false))
 else
  some (.inl (w64 (s3 + 1))))
 else
  some (.inr (.inl ())))) 0) (selim (fun t21 => some true)
   (fun t23 => some t23)))

noncomputable def M.impl_validVectors (list_0 : List (List Int)) (most_1 : Int) : Option Bool :=
  Option.bind ((bif decide ((list_0.length : Int) < 1) then
  some true
 else
  some (decide (most_1 < (list_0.length : Int))))) fun o1 =>
  (bif o1 then
  some false
 else
  Option.bind (loopM (fun (s6 : (Int)) => (bif decide (s6 < (list_0.length : Int)) then
  (gidx list_0 s6).bind fun x9 =>
  (M.impl_ValidVector x9).bind fun r19 =>
  (bif !r19 then
  some (.inr (.inr false))
 else
  some (.inl (w64 (s6 + 1))))
 else
  some (.inr (.inl ())))) 0) (selim (fun t24 => some true)
   (fun t26 => some t26)))

noncomputable def M.cmp_isNaN_int (x_0 : Int) : Option Bool :=
  some (x_0 != x_0)

noncomputable def M.cmp_Compare_int (x_0 : Int) (y_1 : Int) : Option Int :=
  (M.cmp_isNaN_int x_0).bind fun r1 =>
  (M.cmp_isNaN_int y_1).bind fun r5 =>
  (bif r1 then
  (bif r5 then
  some 0
 else
  some (-1))
 else
  (bif r5 then
  some 1
 else
  (bif decide (x_0 < y_1) then
  some (-1)
 else
  (bif decide (y_1 < x_0) then
  some 1
 else
  some 0))))

end Go.Vs

namespace Go.Vs

end Go.Vs

namespace Go.Vs

noncomputable def M.laws_toIntS (a_0 : List Int) : Option ((List Int)) :=
  (gmake (a_0.length : Int) (0 : Int)).bind fun xs1 =>
  Option.bind (loopM (fun (s10 : (List Int) × (Int)) => (bif decide (s10.2 < (a_0.length : Int)) then
  (gidx a_0 s10.2).bind fun x18 =>
  (gidx s10.1 s10.2).bind fun x23 =>
  some (.inl ((s10.1.set s10.2.toNat x18), w64 (s10.2 + 1)))
 else
  some (.inr s10.1))) (xs1, 0)) fun o9 =>
  some o9

noncomputable def M.laws_eqIntS (a_0 : List Int) (b_1 : List Int) : Option Bool :=
  (bif (a_0.length : Int) != (b_1.length : Int) then
  some false
 else
  Option.bind (loopM (fun (s3 : (Int)) => (bif decide (s3 < (a_0.length : Int)) then
  (gidx a_0 s3).bind fun x9 =>
  (gidx b_1 s3).bind fun x14 =>
  (bif x9 != x14 then
  some (.inr (.inr false))
 else
  some (.inl (w64 (s3 + 1))))
 else
  some (.inr (.inl ())))) 0) (selim (fun t21 => some true)
   (fun t23 => some t23)))

noncomputable def M.laws_szIntS (a_0 : List Int) (left_1 : Int) : Option Int :=
  (bif decide ((w64 (left_1 - (a_0.length : Int))) < 0) then
  some (-1)
 else
  some (w64 (left_1 - (a_0.length : Int))))

noncomputable def M.laws_szIntSS (a_0 : List (List Int)) (left_1 : Int) : Option Int :=
  (bif decide ((w64 (left_1 - (a_0.length : Int))) < 0) then
  some (-1)
 else
  Option.bind (loopM (fun (s3 : (Int) × (Int)) => (bif decide (s3.2 < (a_0.length : Int)) then
  (gidx a_0 s3.2).bind fun x8 =>
  (M.laws_szIntS x8 s3.1).bind fun r18 =>
  (bif decide (r18 < 0) then
  some (.inr (.inr (-1)))
 else
  some (.inl (r18, w64 (s3.2 + 1))))
 else
  some (.inr (.inl s3.1)))) (w64 (left_1 - (a_0.length : Int)), 0)) (selim (fun t23 => some t23)
   (fun t25 => some t25)))

noncomputable def M.laws_eqIntSS (a_0 : List (List Int)) (b_1 : List (List Int)) : Option Bool :=
  (bif (a_0.length : Int) != (b_1.length : Int) then
  some false
 else
  Option.bind (loopM (fun (s3 : (Int)) => (bif decide (s3 < (a_0.length : Int)) then
  (gidx a_0 s3).bind fun x9 =>
  (gidx b_1 s3).bind fun x19 =>
  (M.laws_eqIntS x9 x19).bind fun r30 =>
  (bif !r30 then
  some (.inr (.inr false))
 else
  some (.inl (w64 (s3 + 1))))
 else
  some (.inr (.inl ())))) 0) (selim (fun t35 => some true)
   (fun t37 => some t37)))

noncomputable def M.laws_heldIntS (a_0 : List Int) (k_1 : Int) : Option Int :=
  Option.bind (loopM (fun (s2 : (Int) × (Int)) => (bif decide (s2.2 < (a_0.length : Int)) then
  (gidx a_0 s2.2).bind fun x7 =>
  (bif x7 != s2.1 then
  some (.inr (.inr (-1)))
 else
  some (.inl (w64 (s2.1 + 1), w64 (s2.2 + 1))))
 else
  some (.inr (.inl s2.1)))) (k_1, 0)) (selim (fun t13 => some t13)
   (fun t15 => some t15))

end Go.Vs

namespace Go.Vs

end Go.Vs

namespace Go.Vs

end Go.Vs

namespace Go.Vs

noncomputable def M.spec_nearer (a_0 : Int × Int) (b_1 : Int × Int) : Option Bool :=
  (bif decide (a_0.2 < b_1.2) then
  some true
 else
  (bif a_0.2 == b_1.2 then
  some (decide (a_0.1 < b_1.1))
 else
  some false))

noncomputable def M.spec_addHit (list_0 : List (Int × Int)) (h_1 : Int × Int) (k_2 : Int) : Option ((List (Int × Int))) :=
  (gapp ([] : List (Int × Int)) list_0).bind fun xs4 =>
  (gapp xs4 ([(h_1.1, h_1.2)] : List (Int × Int))).bind fun xs11 =>
  Option.bind (loopM (fun (s17 : (List (Int × Int)) × (Int)) => Option.bind ((bif decide (0 < s17.2) then
  (gidx s17.1 s17.2).bind fun x22 =>
  (gidx s17.1 (w64 (s17.2 - 1))).bind fun x29 =>
  (M.spec_nearer (x22.1, x22.2) (x29.1, x29.2)).bind fun r37 =>
  some r37
 else
  some false)) fun o20 =>
  (bif o20 then
  (gidx s17.1 s17.2).bind fun x44 =>
  (gidx s17.1 (w64 (s17.2 - 1))).bind fun x54 =>
  (gidx s17.1 s17.2).bind fun x61 =>
  (gidx (s17.1.set s17.2.toNat (x54.1, x54.2)) (w64 (s17.2 - 1))).bind fun x68 =>
  some (.inl (((s17.1.set s17.2.toNat (x54.1, x54.2)).set (w64 (s17.2 - 1)).toNat (x44.1, x44.2)), w64 (s17.2 - 1)))
 else
  some (.inr s17.1))) (xs11, w64 ((xs11.length : Int) - 1))) fun o16 =>
  (gslice o16 0 (min k_2 (o16.length : Int))).bind fun xs76 =>
  some xs76

end Go.Vs

namespace Go.Vs

end Go.Vs

namespace Go.Vs

noncomputable def M.laws_markIntS (a_0 : List Int) (k_1 : Int) : Option (Int × (List Int)) :=
  Option.bind (loopM (fun (s2 : (List Int) × (Int) × (Int)) => (bif decide (s2.2.2 < (s2.1.length : Int)) then
  (gidx s2.1 s2.2.2).bind fun x6 =>
  some (.inl ((s2.1.set s2.2.2.toNat s2.2.1), w64 (s2.2.1 + 1), w64 (s2.2.2 + 1)))
 else
  some (.inr (s2.1, s2.2.1)))) (a_0, k_1, 0)) fun o1 =>
  some (o1.2, o1.1)

end Go.Vs

namespace Go.Vs

end Go.Vs

namespace Go.Vs

end Go.Vs

namespace Go.Vs

end Go.Vs

namespace Go.Vs

open Classical in
noncomputable def M.dIntSS (a : List (List Int)) : Option (List (List Int)) :=
  if a.length ≤ 2147483648 ∧ ∀ x ∈ a, M.laws_toIntS x = some x then some a else none

noncomputable def M.dmarkIntSS : List (List Int) → Int → Option Int
  | [], k => some k
  | x :: xs, k => (M.laws_markIntS x k).bind fun q => M.dmarkIntSS xs q.1

noncomputable def M.markIntSD (a : List (List Int)) (k : Int) : Option Int := if a.length ≤ 2147483648 then M.dmarkIntSS a k else none

theorem markIntSD_some {a : List (List Int)} {k r : Int} (h : M.markIntSD a k = some r) : a.length ≤ 2147483648 ∧ M.dmarkIntSS a k = some r := by
  unfold M.markIntSD at h; split at h
  · exact ⟨by assumption, h⟩
  · cases h
theorem dIntSS_some {a r : List (List Int)} (h : M.dIntSS a = some r) : a.length ≤ 2147483648 ∧ (∀ x ∈ a, M.laws_toIntS x = some x) ∧ r = a := by
  unfold M.dIntSS at h
  split at h
  · rename_i hc
    exact ⟨hc.1, hc.2, (Option.some.inj h).symm⟩
  · cases h
theorem gmake_nat {α : Type} (n : Nat) (z : α) (h : n ≤ 2147483648) : gmake (n : Int) z = some (List.replicate n z) := by
  unfold gmake
  rw [if_pos (by omega)]; simp
end Go.Vs

namespace Go.Vs

end Go.Vs

namespace Go.Vs

end Go.Vs

namespace Go.Vs

end Go.Vs

namespace Go.Vs

noncomputable def M.impl_ValidCentres (list_0 : List (List Int)) : Option Bool :=
  (M.impl_validVectors list_0 4).bind fun r1 =>
  some r1

noncomputable def M.spec_validCentres (list_0 : List (List Int)) : Option Bool :=
  Option.bind (loopM (fun (s2 : (Int)) => (bif decide (s2 < (list_0.length : Int)) then
  (gidx list_0 s2).bind fun x5 =>
  (M.spec_isVector x5).bind fun r15 =>
  (bif !r15 then
  some (.inr (.inr false))
 else
  some (.inl (w64 (s2 + 1))))
 else
  some (.inr (.inl ())))) 0) (selim (fun t20 => (M.spec_inRange (list_0.length : Int) 1 4).bind fun r22 =>
  some r22)
   (fun t26 => some t26))

noncomputable def M.impl_validProbe (centres_0 : List (List Int)) (at_1 : List Int) (many_2 : Int) : Option Bool :=
  (M.impl_ValidCentres centres_0).bind fun r1 =>
  (bif r1 then
  (M.impl_ValidVector at_1).bind fun r6 =>
  (bif r6 then
  (bif decide (1 ≤ many_2) then
  some (decide (many_2 ≤ 4))
 else
  some false)
 else
  some false)
 else
  some false)

noncomputable def M.impl_ProbeOrder_1__p_SSint__p24 (i_0 : Int) (j_1 : Int) (p_2 : List (List Int)) (p_3 : List Int) : Option Int :=
  (gidx p_2 i_0).bind fun x2 =>
  (M.impl_Distance 3 x2 p_3).bind fun r13 =>
  (gidx p_2 j_1).bind fun x17 =>
  (M.impl_Distance 3 x17 p_3).bind fun r29 =>
  (M.cmp_Compare_int r13 r29).bind fun r33 =>
  some r33

noncomputable def M.slices_insertionSortCmpFunc_int__impl_ProbeOrder_1 (data_0 : List Int) (a_1 : Int) (b_2 : Int) (cmp_3_0 : List (List Int)) (cmp_3_1 : List Int) : Option ((List Int)) :=
  Option.bind (loopM (fun (s2 : (List Int) × (Int)) => (bif decide (s2.2 < b_2) then
  Option.bind (loopM (fun (s7 : (List Int) × (Int)) => Option.bind ((bif decide (a_1 < s7.2) then
  (gidx s7.1 s7.2).bind fun x12 =>
  (gidx s7.1 (w64 (s7.2 - 1))).bind fun x18 =>
  (M.impl_ProbeOrder_1__p_SSint__p24 x12 x18 cmp_3_0 cmp_3_1).bind fun r26 =>
  some (decide (r26 < 0))
 else
  some false)) fun o10 =>
  (bif o10 then
  (gidx s7.1 (w64 (s7.2 - 1))).bind fun x34 =>
  (gidx s7.1 s7.2).bind fun x40 =>
  (gidx s7.1 s7.2).bind fun x46 =>
  (gidx (s7.1.set s7.2.toNat x34) (w64 (s7.2 - 1))).bind fun x52 =>
  some (.inl (((s7.1.set s7.2.toNat x34).set (w64 (s7.2 - 1)).toNat x40), w64 (s7.2 - 1)))
 else
  some (.inr s7.1))) (s2.1, s2.2)) fun o6 =>
  some (.inl (o6, w64 (s2.2 + 1)))
 else
  some (.inr s2.1))) (data_0, w64 (a_1 + 1))) fun o1 =>
  some o1

noncomputable def M.slices_swapRangeCmpFunc_int__impl_ProbeOrder_1 (data_0 : List Int) (a_1 : Int) (b_2 : Int) (n_3 : Int) (cmp_4_0 : List (List Int)) (cmp_4_1 : List Int) : Option ((List Int)) :=
  Option.bind (loopM (fun (s2 : (List Int) × (Int)) => (bif decide (s2.2 < n_3) then
  (gidx s2.1 (w64 (b_2 + s2.2))).bind fun x6 =>
  (gidx s2.1 (w64 (a_1 + s2.2))).bind fun x12 =>
  (gidx s2.1 (w64 (a_1 + s2.2))).bind fun x18 =>
  (gidx (s2.1.set (w64 (a_1 + s2.2)).toNat x6) (w64 (b_2 + s2.2))).bind fun x24 =>
  some (.inl (((s2.1.set (w64 (a_1 + s2.2)).toNat x6).set (w64 (b_2 + s2.2)).toNat x12), w64 (s2.2 + 1)))
 else
  some (.inr s2.1))) (data_0, 0)) fun o1 =>
  some o1

noncomputable def M.slices_rotateCmpFunc_int__impl_ProbeOrder_1 (data_0 : List Int) (a_1 : Int) (m_2 : Int) (b_3 : Int) (cmp_4_0 : List (List Int)) (cmp_4_1 : List Int) : Option ((List Int)) :=
  Option.bind (loopM (fun (s2 : (List Int) × (Int) × (Int)) => (bif s2.2.1 != s2.2.2 then
  (bif decide (s2.2.2 < s2.2.1) then
  (M.slices_swapRangeCmpFunc_int__impl_ProbeOrder_1 s2.1 (w64 (m_2 - s2.2.1)) m_2 s2.2.2 cmp_4_0 cmp_4_1).bind fun r7 =>
  some (.inl (r7, w64 (s2.2.1 - s2.2.2), s2.2.2))
 else
  (M.slices_swapRangeCmpFunc_int__impl_ProbeOrder_1 s2.1 (w64 (m_2 - s2.2.1)) (w64 ((w64 (m_2 + s2.2.2)) - s2.2.1)) s2.2.1 cmp_4_0 cmp_4_1).bind fun r12 =>
  some (.inl (r12, s2.2.1, w64 (s2.2.2 - s2.2.1))))
 else
  some (.inr (s2.1, s2.2.1)))) (data_0, w64 (m_2 - a_1), w64 (b_3 - m_2))) fun o1 =>
  (M.slices_swapRangeCmpFunc_int__impl_ProbeOrder_1 o1.1 (w64 (m_2 - o1.2)) m_2 o1.2 cmp_4_0 cmp_4_1).bind fun r19 =>
  some r19

noncomputable def M.slices_symMergeCmpFunc_int__impl_ProbeOrder_1_F (rec : (List Int) → (Int) → (Int) → (Int) → (List (List Int)) → (List Int) → Option ((List Int))) (data_0 : List Int) (a_1 : Int) (m_2 : Int) (b_3 : Int) (cmp_4_0 : List (List Int)) (cmp_4_1 : List Int) : Option ((List Int)) :=
  (bif (w64 (m_2 - a_1)) == 1 then
  Option.bind (loopM (fun (s3 : (Int) × (Int)) => (bif decide (s3.1 < s3.2) then
  (gidx data_0 (wk .i64 (gshr .u64 (wk .u64 (w64 (s3.1 + s3.2))) 1))).bind fun x6 =>
  (gidx data_0 a_1).bind fun x12 =>
  (M.impl_ProbeOrder_1__p_SSint__p24 x6 x12 cmp_4_0 cmp_4_1).bind fun r20 =>
  (bif decide (r20 < 0) then
  some (.inl (w64 ((wk .i64 (gshr .u64 (wk .u64 (w64 (s3.1 + s3.2))) 1)) + 1), s3.2))
 else
  some (.inl (s3.1, wk .i64 (gshr .u64 (wk .u64 (w64 (s3.1 + s3.2))) 1))))
 else
  some (.inr s3.1))) (m_2, b_3)) fun o2 =>
  Option.bind (loopM (fun (s27 : (List Int) × (Int)) => (bif decide (s27.2 < (w64 (o2 - 1))) then
  (gidx s27.1 (w64 (s27.2 + 1))).bind fun x31 =>
  (gidx s27.1 s27.2).bind fun x37 =>
  (gidx s27.1 s27.2).bind fun x43 =>
  (gidx (s27.1.set s27.2.toNat x31) (w64 (s27.2 + 1))).bind fun x49 =>
  some (.inl (((s27.1.set s27.2.toNat x31).set (w64 (s27.2 + 1)).toNat x37), w64 (s27.2 + 1)))
 else
  some (.inr s27.1))) (data_0, a_1)) fun o26 =>
  some o26
 else
  (bif (w64 (b_3 - m_2)) == 1 then
  Option.bind (loopM (fun (s59 : (Int) × (Int)) => (bif decide (s59.1 < s59.2) then
  (gidx data_0 m_2).bind fun x62 =>
  (gidx data_0 (wk .i64 (gshr .u64 (wk .u64 (w64 (s59.1 + s59.2))) 1))).bind fun x68 =>
  (M.impl_ProbeOrder_1__p_SSint__p24 x62 x68 cmp_4_0 cmp_4_1).bind fun r76 =>
  (bif !(decide (r76 < 0)) then
  some (.inl (w64 ((wk .i64 (gshr .u64 (wk .u64 (w64 (s59.1 + s59.2))) 1)) + 1), s59.2))
 else
  some (.inl (s59.1, wk .i64 (gshr .u64 (wk .u64 (w64 (s59.1 + s59.2))) 1))))
 else
  some (.inr s59.1))) (a_1, m_2)) fun o58 =>
  Option.bind (loopM (fun (s83 : (List Int) × (Int)) => (bif decide (o58 < s83.2) then
  (gidx s83.1 (w64 (s83.2 - 1))).bind fun x87 =>
  (gidx s83.1 s83.2).bind fun x93 =>
  (gidx s83.1 s83.2).bind fun x99 =>
  (gidx (s83.1.set s83.2.toNat x87) (w64 (s83.2 - 1))).bind fun x105 =>
  some (.inl (((s83.1.set s83.2.toNat x87).set (w64 (s83.2 - 1)).toNat x93), w64 (s83.2 - 1)))
 else
  some (.inr s83.1))) (data_0, m_2)) fun o82 =>
  some o82
 else
  Option.bind ((bif decide ((wk .i64 (gshr .u64 (wk .u64 (w64 (a_1 + b_3))) 1)) < m_2) then
  some (w64 ((w64 ((wk .i64 (gshr .u64 (wk .u64 (w64 (a_1 + b_3))) 1)) + m_2)) - b_3), wk .i64 (gshr .u64 (wk .u64 (w64 (a_1 + b_3))) 1))
 else
  some (a_1, m_2))) fun o113 =>
  Option.bind (loopM (fun (s117 : (Int) × (Int)) => (bif decide (s117.1 < s117.2) then
  (gidx data_0 (w64 ((w64 ((w64 ((wk .i64 (gshr .u64 (wk .u64 (w64 (a_1 + b_3))) 1)) + m_2)) - 1)) - (wk .i64 (gshr .u64 (wk .u64 (w64 (s117.1 + s117.2))) 1))))).bind fun x120 =>
  (gidx data_0 (wk .i64 (gshr .u64 (wk .u64 (w64 (s117.1 + s117.2))) 1))).bind fun x126 =>
  (M.impl_ProbeOrder_1__p_SSint__p24 x120 x126 cmp_4_0 cmp_4_1).bind fun r134 =>
  (bif !(decide (r134 < 0)) then
  some (.inl (w64 ((wk .i64 (gshr .u64 (wk .u64 (w64 (s117.1 + s117.2))) 1)) + 1), s117.2))
 else
  some (.inl (s117.1, wk .i64 (gshr .u64 (wk .u64 (w64 (s117.1 + s117.2))) 1))))
 else
  some (.inr s117.1))) (o113.1, o113.2)) fun o116 =>
  Option.bind ((bif decide (o116 < m_2) then
  some (decide (m_2 < (w64 ((w64 ((wk .i64 (gshr .u64 (wk .u64 (w64 (a_1 + b_3))) 1)) + m_2)) - o116))))
 else
  some false)) fun o140 =>
  Option.bind ((bif o140 then
  (M.slices_rotateCmpFunc_int__impl_ProbeOrder_1 data_0 o116 m_2 (w64 ((w64 ((wk .i64 (gshr .u64 (wk .u64 (w64 (a_1 + b_3))) 1)) + m_2)) - o116)) cmp_4_0 cmp_4_1).bind fun r145 =>
  some r145
 else
  some data_0)) fun o143 =>
  Option.bind ((bif decide (a_1 < o116) then
  some (decide (o116 < (wk .i64 (gshr .u64 (wk .u64 (w64 (a_1 + b_3))) 1))))
 else
  some false)) fun o152 =>
  Option.bind ((bif o152 then
  (rec o143 a_1 o116 (wk .i64 (gshr .u64 (wk .u64 (w64 (a_1 + b_3))) 1)) cmp_4_0 cmp_4_1).bind fun r157 =>
  some r157
 else
  some o143)) fun o155 =>
  Option.bind ((bif decide ((wk .i64 (gshr .u64 (wk .u64 (w64 (a_1 + b_3))) 1)) < (w64 ((w64 ((wk .i64 (gshr .u64 (wk .u64 (w64 (a_1 + b_3))) 1)) + m_2)) - o116))) then
  some (decide ((w64 ((w64 ((wk .i64 (gshr .u64 (wk .u64 (w64 (a_1 + b_3))) 1)) + m_2)) - o116)) < b_3))
 else
  some false)) fun o164 =>
  (bif o164 then
  (rec o155 (wk .i64 (gshr .u64 (wk .u64 (w64 (a_1 + b_3))) 1)) (w64 ((w64 ((wk .i64 (gshr .u64 (wk .u64 (w64 (a_1 + b_3))) 1)) + m_2)) - o116)) b_3 cmp_4_0 cmp_4_1).bind fun r168 =>
  some r168
 else
  some o155)))
noncomputable def M.slices_symMergeCmpFunc_int__impl_ProbeOrder_1 : Nat → (List Int) → (Int) → (Int) → (Int) → (List (List Int)) → (List Int) → Option ((List Int))
  | 0 => fun _ _ _ _ _ _ => none
  | fuel + 1 => M.slices_symMergeCmpFunc_int__impl_ProbeOrder_1_F (M.slices_symMergeCmpFunc_int__impl_ProbeOrder_1 fuel)

noncomputable def M.slices_stableCmpFunc_int__impl_ProbeOrder_1 (data_0 : List Int) (n_1 : Int) (cmp_2_0 : List (List Int)) (cmp_2_1 : List Int) : Option ((List Int)) :=
  Option.bind (loopM (fun (s2 : (List Int) × (Int) × (Int)) => (bif decide (s2.2.2 ≤ n_1) then
  (M.slices_insertionSortCmpFunc_int__impl_ProbeOrder_1 s2.1 s2.2.1 s2.2.2 cmp_2_0 cmp_2_1).bind fun r6 =>
  some (.inl (r6, s2.2.2, w64 (s2.2.2 + 20)))
 else
  some (.inr (s2.1, s2.2.1)))) (data_0, 0, 20)) fun o1 =>
  (M.slices_insertionSortCmpFunc_int__impl_ProbeOrder_1 o1.1 o1.2 n_1 cmp_2_0 cmp_2_1).bind fun r13 =>
  Option.bind (loopM (fun (s19 : (List Int) × (Int)) => (bif decide (s19.2 < n_1) then
  Option.bind (loopM (fun (s24 : (List Int) × (Int) × (Int)) => (bif decide (s24.2.2 ≤ n_1) then
  (M.slices_symMergeCmpFunc_int__impl_ProbeOrder_1 100 s24.1 s24.2.1 (w64 (s24.2.1 + s19.2)) s24.2.2 cmp_2_0 cmp_2_1).bind fun r28 =>
  some (.inl (r28, s24.2.2, w64 (s24.2.2 + (w64 (2 * s19.2)))))
 else
  some (.inr (s24.1, s24.2.1)))) (s19.1, 0, w64 (2 * s19.2))) fun o23 =>
  Option.bind ((bif decide ((w64 (o23.2 + s19.2)) < n_1) then
  (M.slices_symMergeCmpFunc_int__impl_ProbeOrder_1 100 o23.1 o23.2 (w64 (o23.2 + s19.2)) n_1 cmp_2_0 cmp_2_1).bind fun r37 =>
  some r37
 else
  some o23.1)) fun o35 =>
  some (.inl (o35, w64 (s19.2 * 2)))
 else
  some (.inr s19.1))) (r13, 20)) fun o18 =>
  some o18

noncomputable def M.slices_SortStableFunc_int_int__impl_ProbeOrder_1 (x_0 : List Int) (cmp_1_0 : List (List Int)) (cmp_1_1 : List Int) : Option ((List Int)) :=
  (M.slices_stableCmpFunc_int__impl_ProbeOrder_1 x_0 (x_0.length : Int) cmp_1_0 cmp_1_1).bind fun r1 =>
  some r1

noncomputable def M.impl_ProbeOrder (centres_0 : List (List Int)) (at_1 : List Int) (many_2 : Int) : Option ((List Int)) :=
  (M.impl_validProbe centres_0 at_1 many_2).bind fun r7 =>
  (bif !r7 then
  some []
 else
  (gmake (centres_0.length : Int) (0 : Int)).bind fun xs13 =>
  Option.bind (loopM (fun (s20 : (List Int) × (Int)) => (bif decide (s20.2 < (xs13.length : Int)) then
  (gidx s20.1 s20.2).bind fun x25 =>
  some (.inl ((s20.1.set s20.2.toNat s20.2), w64 (s20.2 + 1)))
 else
  some (.inr s20.1))) (xs13, 0)) fun o19 =>
  (M.slices_SortStableFunc_int_int__impl_ProbeOrder_1 o19 centres_0 at_1).bind fun r34 =>
  (gslice r34 0 (min many_2 (r34.length : Int))).bind fun xs39 =>
  some xs39)

noncomputable def M.spec_probes (centres_0 : List (List Int)) (at_1 : List Int) (many_2 : Int) : Option ((List Int)) :=
  Option.bind (loopM (fun (s4 : (List (Int × Int)) × (Int)) => (bif decide (s4.2 < (centres_0.length : Int)) then
  (gidx centres_0 s4.2).bind fun x9 =>
  (M.spec_dist 3 x9 at_1).bind fun r19 =>
  (M.spec_addHit s4.1 (s4.2, r19) many_2).bind fun r25 =>
  some (.inl (r25, w64 (s4.2 + 1)))
 else
  some (.inr s4.1))) (([] : List (Int × Int)), 0)) fun o3 =>
  Option.bind (loopM (fun (s37 : (List Int) × (Int)) => (bif decide (s37.2 < (o3.length : Int)) then
  (gidx o3 s37.2).bind fun x42 =>
  (gapp s37.1 ([x42.1] : List Int)).bind fun xs50 =>
  some (.inl (xs50, w64 (s37.2 + 1)))
 else
  some (.inr s37.1))) (([] : List Int), 0)) fun o36 =>
  some o36

noncomputable def M.spec_ProbeOrder (centres_0 : List (List Int)) (at_1 : List Int) (many_2 : Int) : Option ((List Int)) :=
  Option.bind ((M.spec_validCentres centres_0).bind fun r2 =>
  (bif !r2 then
  some true
 else
  (M.spec_isVector at_1).bind fun r7 =>
  (bif !r7 then
  some true
 else
  (M.spec_inRange many_2 1 4).bind fun r12 =>
  some (!r12)))) fun o1 =>
  (bif o1 then
  some []
 else
  (M.spec_probes centres_0 at_1 many_2).bind fun r18 =>
  some r18)

noncomputable def M.laws_FnExactProbeOrder (aCentres_0 : List (List Int)) (aAt_1 : List Int) (aMany_2 : Int) : Option Bool :=
  (bif decide (1048576 < (aAt_1.length : Int)) then
  some true
 else
  (M.laws_szIntSS aCentres_0 1048576).bind fun r2 =>
  (bif decide (r2 < 0) then
  some true
 else
  (M.dIntSS aCentres_0).bind fun r7 =>
  (M.laws_toIntS aAt_1).bind fun r15 =>
  (M.spec_ProbeOrder r7 r15 aMany_2).bind fun r24 =>
  (M.dIntSS aCentres_0).bind fun r30 =>
  (M.laws_toIntS aAt_1).bind fun r38 =>
  (M.impl_ProbeOrder r30 r38 aMany_2).bind fun r45 =>
  (M.laws_eqIntS r45 r24).bind fun r51 =>
  (bif !r51 then
  some false
 else
  (M.dIntSS aCentres_0).bind fun r56 =>
  (M.laws_eqIntSS r30 r56).bind fun r64 =>
  (bif !r64 then
  some false
 else
  (M.laws_toIntS aAt_1).bind fun r69 =>
  (M.laws_eqIntS r38 r69).bind fun r78 =>
  (bif !r78 then
  some false
 else
  (M.markIntSD r30 1).bind fun r83 =>
  (M.laws_markIntS r38 r83).bind fun r87 =>
  Option.bind ((bif decide (r87.1 < 0) then
  some true
 else
  (M.laws_eqIntS r45 r24).bind fun r94 =>
  some (!r94))) fun o92 =>
  (bif o92 then
  some false
 else
  (M.laws_markIntS r45 1).bind fun r100 =>
  (M.laws_heldIntS r100.2 1).bind fun r105 =>
  (bif decide (r105 < 0) then
  some false
 else
  (bif r105 != r100.1 then
  some false
 else
  (M.dIntSS aCentres_0).bind fun r111 =>
  (M.laws_toIntS aAt_1).bind fun r119 =>
  (M.impl_ProbeOrder r111 r119 aMany_2).bind fun r128 =>
  (M.laws_eqIntS r128 r24).bind fun r138 =>
  (bif !r138 then
  some false
 else
  (M.laws_heldIntS r100.2 1).bind fun r145 =>
  (bif decide (r145 < 0) then
  some false
 else
  (bif r145 != r100.1 then
  some false
 else
  some true)))))))))))

end Go.Vs

namespace Go.Vs

end Go.Vs

namespace Go.Vs

end Go.Vs

namespace Go.Vs

end Go.Vs

namespace Go.Vs

end Go.Vs

namespace Go.Vs

end Go.Vs

namespace Go.Vs

end Go.Vs

namespace Go.Vs

end Go.Vs

namespace Go.Vs

end Go.Vs

namespace Go.Vs

end Go.Vs

namespace Go.Vs

end Go.Vs

namespace Go.Vs

end Go.Vs

namespace Go.Vs

end Go.Vs

namespace Go.Vs

end Go.Vs

namespace Go.Vs

end Go.Vs

namespace Go.Vs

end Go.Vs

namespace Go.Vs

end Go.Vs

namespace Go.Vs

end Go.Vs

namespace Go.Vs

end Go.Vs
