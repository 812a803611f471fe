/- What the functions compute. -/
import Derived.Test.YtbnhppnkdmnneaaExactMeanOfEng1
import Derived.Test.YtbnhppnkdmnneaaExactMeanOfEng2
set_option linter.unusedVariables false
set_option linter.unusedSimpArgs false
namespace Go.Vs

noncomputable def M.impl_validCoords (coords_0 : List Int) : Option Bool :=
  Option.bind (loopM (fun (s2 : (Int)) => (bif decide (s2 < (coords_0.length : Int)) then
  (gidx coords_0 s2).bind fun x5 =>
  Option.bind ((bif decide (x5 < (-100)) then
  some true
 else
  some (decide (100 < x5)))) fun o11 =>
  (bif o11 then
  some (.inr (.inr false))
 else
  some (.inl (w64 (s2 + 1))))
 else
  some (.inr (.inl ())))) 0) (selim (fun t15 => some true)
   (fun t17 => some t17))

noncomputable def M.impl_ValidVector (v_0 : List Int) : Option Bool :=
  (bif (v_0.length : Int) == 4 then
  (M.impl_validCoords v_0).bind fun r2 =>
  some r2
 else
  some false)

noncomputable def M.spec_inRange (n_0 : Int) (low_1 : Int) (high_2 : Int) : Option Bool :=
  (bif decide (low_1 ≤ n_0) then
  some (decide (n_0 ≤ high_2))
 else
  some false)

noncomputable def M.spec_allIn (list_0 : List Int) (low_1 : Int) (high_2 : Int) : Option Bool :=
  Option.bind (loopM (fun (s2 : (Int)) => (bif decide (s2 < (list_0.length : Int)) then
  (gidx list_0 s2).bind fun x7 =>
  (M.spec_inRange x7 low_1 high_2).bind fun r12 =>
  (bif !r12 then
  some (.inr (.inr false))
 else
  some (.inl (w64 (s2 + 1))))
 else
  some (.inr (.inl ())))) 0) (selim (fun t17 => some true)
   (fun t19 => some t19))

noncomputable def M.spec_isVector (v_0 : List Int) : Option Bool :=
  (bif (v_0.length : Int) == 4 then
  (M.spec_allIn v_0 (-100) 100).bind fun r2 =>
  some r2
 else
  some false)

noncomputable def M.laws_equalInts (a_0 : List Int) (b_1 : List Int) : Option Bool :=
  (bif (a_0.length : Int) != (b_1.length : Int) then
  some false
 else
  Option.bind (loopM (fun (s3 : (Int)) => (bif decide (s3 < (a_0.length : Int)) then
  (gidx a_0 s3).bind fun x9 =>
  (gidx b_1 s3).bind fun x14 =>
  (bif x9 != x14 then
  some (.inr (.inr false))
 else
  some (.inl (w64 (s3 + 1))))
 else
  some (.inr (.inl ())))) 0) (selim (fun t21 => some true)
   (fun t23 => some t23)))

noncomputable def M.impl_divideDown (n_0 : Int) (by_1 : Int) : Option Int :=
  (gquo n_0 by_1).bind fun q1 =>
  (grem n_0 by_1).bind fun q3 =>
  Option.bind ((bif decide (q3 < 0) then
  some (w64 (q1 - 1))
 else
  some q1)) fun o5 =>
  some o5

noncomputable def M.impl_validVectors (list_0 : List (List Int)) (most_1 : Int) : Option Bool :=
  Option.bind ((bif decide ((list_0.length : Int) < 1) then
  some true
 else
  some (decide (most_1 < (list_0.length : Int))))) fun o1 =>
  (bif o1 then
  some false
 else
  Option.bind (loopM (fun (s6 : (Int)) => (bif decide (s6 < (list_0.length : Int)) then
  (gidx list_0 s6).bind fun x9 =>
  (M.impl_ValidVector x9).bind fun r19 =>
  (bif !r19 then
  some (.inr (.inr false))
 else
  some (.inl (w64 (s6 + 1))))
 else
  some (.inr (.inl ())))) 0) (selim (fun t24 => some true)
   (fun t26 => some t26)))

noncomputable def M.impl_MeanOf (list_0 : List (List Int)) : Option ((List Int)) :=
  (M.impl_validVectors list_0 16).bind fun r1 =>
  (bif !r1 then
  some []
 else
  Option.bind (loopM (fun (s9 : (List Int) × (Int)) => (bif decide (s9.2 < (list_0.length : Int)) then
  (gidx list_0 s9.2).bind fun x13 =>
  Option.bind (loopM (fun (s24 : (List Int) × (Int)) => (bif decide (s24.2 < (x13.length : Int)) then
  (gidx x13 s24.2).bind fun x28 =>
  (gidx s24.1 s24.2).bind fun x34 =>
  (gidx s24.1 s24.2).bind fun x38 =>
  some (.inl ((s24.1.set s24.2.toNat (w64 (x34 + x28))), w64 (s24.2 + 1)))
 else
  some (.inr s24.1))) (s9.1, 0)) fun o23 =>
  some (.inl (o23, w64 (s9.2 + 1)))
 else
  some (.inr s9.1))) ((List.replicate 4 0), 0)) fun o8 =>
  Option.bind (loopM (fun (s49 : (List Int) × (Int)) => (bif decide (s49.2 < 4) then
  (gidx o8 s49.2).bind fun x53 =>
  (M.impl_divideDown x53 (list_0.length : Int)).bind fun r55 =>
  (gidx s49.1 s49.2).bind fun x59 =>
  some (.inl ((s49.1.set s49.2.toNat r55), w64 (s49.2 + 1)))
 else
  some (.inr s49.1))) (o8, 0)) fun o48 =>
  some o48)

noncomputable def M.spec_floorDiv (a_0 : Int) (b_1 : Int) : Option Int :=
  (gquo a_0 b_1).bind fun q1 =>
  (grem a_0 b_1).bind fun q3 =>
  Option.bind ((bif decide (q3 < 0) then
  some (w64 (q1 - 1))
 else
  some q1)) fun o5 =>
  some o5

noncomputable def M.spec_mean (list_0 : List (List Int)) : Option ((List Int)) :=
  Option.bind (loopM (fun (s7 : (List Int) × (Int)) => (bif decide (s7.2 < 4) then
  Option.bind (loopM (fun (s16 : (Int) × (Int)) => (bif decide (s16.2 < (list_0.length : Int)) then
  (gidx list_0 s16.2).bind fun x22 =>
  (gidx x22 s7.2).bind fun x32 =>
  some (.inl (w64 (s16.1 + x32), w64 (s16.2 + 1)))
 else
  some (.inr s16.1))) (0, 0)) fun o15 =>
  (M.spec_floorDiv o15 (list_0.length : Int)).bind fun r40 =>
  (gapp s7.1 ([r40] : List Int)).bind fun xs51 =>
  some (.inl (xs51, w64 (s7.2 + 1)))
 else
  some (.inr s7.1))) (([] : List Int), 0)) fun o6 =>
  some o6

noncomputable def M.spec_MeanOf (list_0 : List (List Int)) : Option ((List Int)) :=
  (M.spec_inRange (list_0.length : Int) 1 16).bind fun r1 =>
  (bif !r1 then
  some []
 else
  Option.bind (loopM (fun (s7 : (Int)) => (bif decide (s7 < (list_0.length : Int)) then
  (gidx list_0 s7).bind fun x12 =>
  (M.spec_isVector x12).bind fun r22 =>
  (bif !r22 then
  some (.inr (.inr []))
 else
  some (.inl (w64 (s7 + 1))))
 else
  some (.inr (.inl ())))) 0) (selim (fun t27 => (M.spec_mean list_0).bind fun r30 =>
  some r30)
   (fun t37 => some t37)))

end Go.Vs

namespace Go.Vs

end Go.Vs

namespace Go.Vs

noncomputable def M.laws_toIntS (a_0 : List Int) : Option ((List Int)) :=
  (gmake (a_0.length : Int) (0 : Int)).bind fun xs1 =>
  Option.bind (loopM (fun (s10 : (List Int) × (Int)) => (bif decide (s10.2 < (a_0.length : Int)) then
  (gidx a_0 s10.2).bind fun x18 =>
  (gidx s10.1 s10.2).bind fun x23 =>
  some (.inl ((s10.1.set s10.2.toNat x18), w64 (s10.2 + 1)))
 else
  some (.inr s10.1))) (xs1, 0)) fun o9 =>
  some o9

noncomputable def M.laws_eqIntS (a_0 : List Int) (b_1 : List Int) : Option Bool :=
  (bif (a_0.length : Int) != (b_1.length : Int) then
  some false
 else
  Option.bind (loopM (fun (s3 : (Int)) => (bif decide (s3 < (a_0.length : Int)) then
  (gidx a_0 s3).bind fun x9 =>
  (gidx b_1 s3).bind fun x14 =>
  (bif x9 != x14 then
  some (.inr (.inr false))
 else
  some (.inl (w64 (s3 + 1))))
 else
  some (.inr (.inl ())))) 0) (selim (fun t21 => some true)
   (fun t23 => some t23)))

noncomputable def M.laws_szIntS (a_0 : List Int) (left_1 : Int) : Option Int :=
  (bif decide ((w64 (left_1 - (a_0.length : Int))) < 0) then
  some (-1)
 else
  some (w64 (left_1 - (a_0.length : Int))))

noncomputable def M.laws_szIntSS (a_0 : List (List Int)) (left_1 : Int) : Option Int :=
  (bif decide ((w64 (left_1 - (a_0.length : Int))) < 0) then
  some (-1)
 else
  Option.bind (loopM (fun (s3 : (Int) × (Int)) => (bif decide (s3.2 < (a_0.length : Int)) then
  (gidx a_0 s3.2).bind fun x8 =>
  (M.laws_szIntS x8 s3.1).bind fun r18 =>
  (bif decide (r18 < 0) then
  some (.inr (.inr (-1)))
 else
  some (.inl (r18, w64 (s3.2 + 1))))
 else
  some (.inr (.inl s3.1)))) (w64 (left_1 - (a_0.length : Int)), 0)) (selim (fun t23 => some t23)
   (fun t25 => some t25)))

noncomputable def M.laws_eqIntSS (a_0 : List (List Int)) (b_1 : List (List Int)) : Option Bool :=
  (bif (a_0.length : Int) != (b_1.length : Int) then
  some false
 else
  Option.bind (loopM (fun (s3 : (Int)) => (bif decide (s3 < (a_0.length : Int)) then
  (gidx a_0 s3).bind fun x9 =>
  (gidx b_1 s3).bind fun x19 =>
  (M.laws_eqIntS x9 x19).bind fun r30 =>
  (bif !r30 then
  some (.inr (.inr false))
 else
  some (.inl (w64 (s3 + 1))))
 else
  some (.inr (.inl ())))) 0) (selim (fun t35 => some true)
   (fun t37 => some t37)))

noncomputable def M.laws_heldIntS (a_0 : List Int) (k_1 : Int) : Option Int :=
  Option.bind (loopM (fun (s2 : (Int) × (Int)) => (bif decide (s2.2 < (a_0.length : Int)) then
  (gidx a_0 s2.2).bind fun x7 =>
  (bif x7 != s2.1 then
  some (.inr (.inr (-1)))
 else
  some (.inl (w64 (s2.1 + 1), w64 (s2.2 + 1))))
 else
  some (.inr (.inl s2.1)))) (k_1, 0)) (selim (fun t13 => some t13)
   (fun t15 => some t15))

end Go.Vs

namespace Go.Vs

end Go.Vs

namespace Go.Vs

end Go.Vs

namespace Go.Vs

end Go.Vs

namespace Go.Vs

end Go.Vs

namespace Go.Vs

noncomputable def M.laws_markIntS (a_0 : List Int) (k_1 : Int) : Option (Int × (List Int)) :=
  Option.bind (loopM (fun (s2 : (List Int) × (Int) × (Int)) => (bif decide (s2.2.2 < (s2.1.length : Int)) then
  (gidx s2.1 s2.2.2).bind fun x6 =>
  some (.inl ((s2.1.set s2.2.2.toNat s2.2.1), w64 (s2.2.1 + 1), w64 (s2.2.2 + 1)))
 else
  some (.inr (s2.1, s2.2.1)))) (a_0, k_1, 0)) fun o1 =>
  some (o1.2, o1.1)

end Go.Vs

namespace Go.Vs

end Go.Vs

namespace Go.Vs

end Go.Vs

namespace Go.Vs

end Go.Vs

namespace Go.Vs

open Classical in
noncomputable def M.dIntSS (a : List (List Int)) : Option (List (List Int)) :=
  if a.length ≤ 2147483648 ∧ ∀ x ∈ a, M.laws_toIntS x = some x then some a else none

noncomputable def M.dmarkIntSS : List (List Int) → Int → Option Int
  | [], k => some k
  | x :: xs, k => (M.laws_markIntS x k).bind fun q => M.dmarkIntSS xs q.1

noncomputable def M.markIntSD (a : List (List Int)) (k : Int) : Option Int := if a.length ≤ 2147483648 then M.dmarkIntSS a k else none

theorem markIntSD_some {a : List (List Int)} {k r : Int} (h : M.markIntSD a k = some r) : a.length ≤ 2147483648 ∧ M.dmarkIntSS a k = some r := by
  unfold M.markIntSD at h; split at h
  · exact ⟨by assumption, h⟩
  · cases h
theorem dIntSS_some {a r : List (List Int)} (h : M.dIntSS a = some r) : a.length ≤ 2147483648 ∧ (∀ x ∈ a, M.laws_toIntS x = some x) ∧ r = a := by
  unfold M.dIntSS at h
  split at h
  · rename_i hc
    exact ⟨hc.1, hc.2, (Option.some.inj h).symm⟩
  · cases h
theorem gmake_nat {α : Type} (n : Nat) (z : α) (h : n ≤ 2147483648) : gmake (n : Int) z = some (List.replicate n z) := by
  unfold gmake
  rw [if_pos (by omega)]; simp
end Go.Vs

namespace Go.Vs

noncomputable def M.laws_FnExactMeanOf (aList_0 : List (List Int)) : Option Bool :=
  (M.laws_szIntSS aList_0 1048576).bind fun r1 =>
  (bif decide (r1 < 0) then
  some true
 else
  (M.dIntSS aList_0).bind fun r6 =>
  (M.spec_MeanOf r6).bind fun r14 =>
  (M.dIntSS aList_0).bind fun r20 =>
  (M.impl_MeanOf r20).bind fun r28 =>
  (M.laws_eqIntS r28 r14).bind fun r34 =>
  (bif !r34 then
  some false
 else
  (M.dIntSS aList_0).bind fun r39 =>
  (M.laws_eqIntSS r20 r39).bind fun r47 =>
  (bif !r47 then
  some false
 else
  (M.markIntSD r20 1).bind fun r52 =>
  Option.bind ((bif decide (r52 < 0) then
  some true
 else
  (M.laws_eqIntS r28 r14).bind fun r58 =>
  some (!r58))) fun o56 =>
  (bif o56 then
  some false
 else
  (M.laws_markIntS r28 1).bind fun r64 =>
  (M.laws_heldIntS r64.2 1).bind fun r69 =>
  (bif decide (r69 < 0) then
  some false
 else
  (bif r69 != r64.1 then
  some false
 else
  (M.dIntSS aList_0).bind fun r75 =>
  (M.impl_MeanOf r75).bind fun r83 =>
  (M.laws_eqIntS r83 r14).bind fun r93 =>
  (bif !r93 then
  some false
 else
  (M.laws_heldIntS r64.2 1).bind fun r100 =>
  (bif decide (r100 < 0) then
  some false
 else
  (bif r100 != r64.1 then
  some false
 else
  some true)))))))))

end Go.Vs

namespace Go.Vs

end Go.Vs

namespace Go.Vs

end Go.Vs

namespace Go.Vs

end Go.Vs

namespace Go.Vs

end Go.Vs

namespace Go.Vs

end Go.Vs

namespace Go.Vs

end Go.Vs

namespace Go.Vs

end Go.Vs

namespace Go.Vs

end Go.Vs

namespace Go.Vs

end Go.Vs

namespace Go.Vs

end Go.Vs

namespace Go.Vs

end Go.Vs

namespace Go.Vs

end Go.Vs

namespace Go.Vs

end Go.Vs

namespace Go.Vs

end Go.Vs

namespace Go.Vs

end Go.Vs

namespace Go.Vs

end Go.Vs

namespace Go.Vs

end Go.Vs

namespace Go.Vs

end Go.Vs

namespace Go.Vs

end Go.Vs
