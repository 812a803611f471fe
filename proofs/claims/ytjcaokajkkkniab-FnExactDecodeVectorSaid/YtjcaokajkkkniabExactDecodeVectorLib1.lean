/- What the functions compute. -/
import Derived.Test.YtjcaokajkkkniabExactDecodeVectorEng1
import Derived.Test.YtjcaokajkkkniabExactDecodeVectorEng2
import Derived.Test.YtjcaokajkkkniabExactDecodeVectorSrt1
set_option linter.unusedVariables false
set_option linter.unusedSimpArgs false
namespace Go.Vs

noncomputable def M.impl_validCoords (coords_0 : List Int) : Option Bool :=
  Option.bind (loopM (fun (s2 : (Int)) => (bif decide (s2 < (coords_0.length : Int)) then
  (gidx coords_0 s2).bind fun x5 =>
  Option.bind ((bif decide (x5 < (-100)) then
  some true
 else
  some (decide (100 < x5)))) fun o11 =>
  (bif o11 then
  some (.inr (.inr false))
 else
  some (.inl (w64 (s2 + 1))))
 else
  some (.inr (.inl ())))) 0) (selim (fun t15 => some true)
   (fun t17 => some t17))

noncomputable def M.spec_inRange (n_0 : Int) (low_1 : Int) (high_2 : Int) : Option Bool :=
  (bif decide (low_1 ≤ n_0) then
  some (decide (n_0 ≤ high_2))
 else
  some false)

noncomputable def M.spec_allIn (list_0 : List Int) (low_1 : Int) (high_2 : Int) : Option Bool :=
  Option.bind (loopM (fun (s2 : (Int)) => (bif decide (s2 < (list_0.length : Int)) then
  (gidx list_0 s2).bind fun x7 =>
  (M.spec_inRange x7 low_1 high_2).bind fun r12 =>
  (bif !r12 then
  some (.inr (.inr false))
 else
  some (.inl (w64 (s2 + 1))))
 else
  some (.inr (.inl ())))) 0) (selim (fun t17 => some true)
   (fun t19 => some t19))

noncomputable def M.laws_equalInts (a_0 : List Int) (b_1 : List Int) : Option Bool :=
  (bif (a_0.length : Int) != (b_1.length : Int) then
  some false
 else
  Option.bind (loopM (fun (s3 : (Int)) => (bif decide (s3 < (a_0.length : Int)) then
  (gidx a_0 s3).bind fun x9 =>
  (gidx b_1 s3).bind fun x14 =>
  (bif x9 != x14 then
  some (.inr (.inr false))
 else
  some (.inl (w64 (s3 + 1))))
 else
  some (.inr (.inl ())))) 0) (selim (fun t21 => some true)
   (fun t23 => some t23)))

end Go.Vs

namespace Go.Vs

end Go.Vs

namespace Go.Vs

noncomputable def M.laws_toIntS (a_0 : List Int) : Option ((List Int)) :=
  (gmake (a_0.length : Int) (0 : Int)).bind fun xs1 =>
  Option.bind (loopM (fun (s10 : (List Int) × (Int)) => (bif decide (s10.2 < (a_0.length : Int)) then
  (gidx a_0 s10.2).bind fun x18 =>
  (gidx s10.1 s10.2).bind fun x23 =>
  some (.inl ((s10.1.set s10.2.toNat x18), w64 (s10.2 + 1)))
 else
  some (.inr s10.1))) (xs1, 0)) fun o9 =>
  some o9

noncomputable def M.laws_eqIntS (a_0 : List Int) (b_1 : List Int) : Option Bool :=
  (bif (a_0.length : Int) != (b_1.length : Int) then
  some false
 else
  Option.bind (loopM (fun (s3 : (Int)) => (bif decide (s3 < (a_0.length : Int)) then
  (gidx a_0 s3).bind fun x9 =>
  (gidx b_1 s3).bind fun x14 =>
  (bif x9 != x14 then
  some (.inr (.inr false))
 else
  some (.inl (w64 (s3 + 1))))
 else
  some (.inr (.inl ())))) 0) (selim (fun t21 => some true)
   (fun t23 => some t23)))

noncomputable def M.laws_szIntS (a_0 : List Int) (left_1 : Int) : Option Int :=
  (bif decide ((w64 (left_1 - (a_0.length : Int))) < 0) then
  some (-1)
 else
  some (w64 (left_1 - (a_0.length : Int))))

noncomputable def M.laws_szIntSS (a_0 : List (List Int)) (left_1 : Int) : Option Int :=
  (bif decide ((w64 (left_1 - (a_0.length : Int))) < 0) then
  some (-1)
 else
  Option.bind (loopM (fun (s3 : (Int) × (Int)) => (bif decide (s3.2 < (a_0.length : Int)) then
  (gidx a_0 s3.2).bind fun x8 =>
  (M.laws_szIntS x8 s3.1).bind fun r18 =>
  (bif decide (r18 < 0) then
  some (.inr (.inr (-1)))
 else
  some (.inl (r18, w64 (s3.2 + 1))))
 else
  some (.inr (.inl s3.1)))) (w64 (left_1 - (a_0.length : Int)), 0)) (selim (fun t23 => some t23)
   (fun t25 => some t25)))

noncomputable def M.laws_eqIntSS (a_0 : List (List Int)) (b_1 : List (List Int)) : Option Bool :=
  (bif (a_0.length : Int) != (b_1.length : Int) then
  some false
 else
  Option.bind (loopM (fun (s3 : (Int)) => (bif decide (s3 < (a_0.length : Int)) then
  (gidx a_0 s3).bind fun x9 =>
  (gidx b_1 s3).bind fun x19 =>
  (M.laws_eqIntS x9 x19).bind fun r30 =>
  (bif !r30 then
  some (.inr (.inr false))
 else
  some (.inl (w64 (s3 + 1))))
 else
  some (.inr (.inl ())))) 0) (selim (fun t35 => some true)
   (fun t37 => some t37)))

noncomputable def M.laws_heldIntS (a_0 : List Int) (k_1 : Int) : Option Int :=
  Option.bind (loopM (fun (s2 : (Int) × (Int)) => (bif decide (s2.2 < (a_0.length : Int)) then
  (gidx a_0 s2.2).bind fun x7 =>
  (bif x7 != s2.1 then
  some (.inr (.inr (-1)))
 else
  some (.inl (w64 (s2.1 + 1), w64 (s2.2 + 1))))
 else
  some (.inr (.inl s2.1)))) (k_1, 0)) (selim (fun t13 => some t13)
   (fun t15 => some t15))

end Go.Vs

namespace Go.Vs

end Go.Vs

namespace Go.Vs

end Go.Vs

namespace Go.Vs

end Go.Vs

namespace Go.Vs

end Go.Vs

namespace Go.Vs

noncomputable def M.laws_markIntS (a_0 : List Int) (k_1 : Int) : Option (Int × (List Int)) :=
  Option.bind (loopM (fun (s2 : (List Int) × (Int) × (Int)) => (bif decide (s2.2.2 < (s2.1.length : Int)) then
  (gidx s2.1 s2.2.2).bind fun x6 =>
  some (.inl ((s2.1.set s2.2.2.toNat s2.2.1), w64 (s2.2.1 + 1), w64 (s2.2.2 + 1)))
 else
  some (.inr (s2.1, s2.2.1)))) (a_0, k_1, 0)) fun o1 =>
  some (o1.2, o1.1)

end Go.Vs

namespace Go.Vs

end Go.Vs

namespace Go.Vs

end Go.Vs

namespace Go.Vs

end Go.Vs

namespace Go.Vs

open Classical in
noncomputable def M.dIntSS (a : List (List Int)) : Option (List (List Int)) :=
  if a.length ≤ 2147483648 ∧ ∀ x ∈ a, M.laws_toIntS x = some x then some a else none

noncomputable def M.dmarkIntSS : List (List Int) → Int → Option Int
  | [], k => some k
  | x :: xs, k => (M.laws_markIntS x k).bind fun q => M.dmarkIntSS xs q.1

noncomputable def M.markIntSD (a : List (List Int)) (k : Int) : Option Int := if a.length ≤ 2147483648 then M.dmarkIntSS a k else none

theorem markIntSD_some {a : List (List Int)} {k r : Int} (h : M.markIntSD a k = some r) : a.length ≤ 2147483648 ∧ M.dmarkIntSS a k = some r := by
  unfold M.markIntSD at h; split at h
  · exact ⟨by assumption, h⟩
  · cases h
theorem dIntSS_some {a r : List (List Int)} (h : M.dIntSS a = some r) : a.length ≤ 2147483648 ∧ (∀ x ∈ a, M.laws_toIntS x = some x) ∧ r = a := by
  unfold M.dIntSS at h
  split at h
  · rename_i hc
    exact ⟨hc.1, hc.2, (Option.some.inj h).symm⟩
  · cases h
theorem gmake_nat {α : Type} (n : Nat) (z : α) (h : n ≤ 2147483648) : gmake (n : Int) z = some (List.replicate n z) := by
  unfold gmake
  rw [if_pos (by omega)]; simp
end Go.Vs

namespace Go.Vs

end Go.Vs

namespace Go.Vs

end Go.Vs

namespace Go.Vs

end Go.Vs

namespace Go.Vs

end Go.Vs

namespace Go.Vs

end Go.Vs

namespace Go.Vs

end Go.Vs

namespace Go.Vs

noncomputable def M.laws_szBook (a_0 : (List (List Int)) × (List (List Int))) (left_1 : Int) : Option Int :=
  (M.laws_szIntSS a_0.1 left_1).bind fun r4 =>
  (bif decide (r4 < 0) then
  some (-1)
 else
  (M.laws_szIntSS a_0.2 r4).bind fun r10 =>
  (bif decide (r10 < 0) then
  some (-1)
 else
  some r10))

noncomputable def M.spec_validHalves (list_0 : List (List Int)) : Option Bool :=
  Option.bind (loopM (fun (s2 : (Int)) => (bif decide (s2 < (list_0.length : Int)) then
  Option.bind ((gidx list_0 s2).bind fun x6 =>
  (bif (x6.length : Int) != 2 then
  some true
 else
  (gidx list_0 s2).bind fun x17 =>
  (M.spec_allIn x17 (-100) 100).bind fun r27 =>
  some (!r27))) fun o5 =>
  (bif o5 then
  some (.inr (.inr false))
 else
  some (.inl (w64 (s2 + 1))))
 else
  some (.inr (.inl ())))) 0) (selim (fun t33 => some true)
   (fun t35 => some t35))

noncomputable def M.spec_validBook (b_0 : (List (List Int)) × (List (List Int))) : Option Bool :=
  (bif (b_0.1.length : Int) == 4 then
  (bif (b_0.2.length : Int) == 4 then
  (M.spec_validHalves b_0.1).bind fun r8 =>
  (bif r8 then
  (M.spec_validHalves b_0.2).bind fun r14 =>
  some r14
 else
  some false)
 else
  some false)
 else
  some false)

noncomputable def M.spec_decode (b_0 : (List (List Int)) × (List (List Int))) (code_1 : Int) : Option ((List Int)) :=
  (gidx b_0.1 (w64 (code_1.tdiv 4))).bind fun x5 =>
  (gapp ([] : List Int) x5).bind fun xs15 =>
  (gidx b_0.2 (code_1.tmod 4)).bind fun x20 =>
  (gapp xs15 x20).bind fun xs31 =>
  some xs31

noncomputable def M.laws_toBookD (a_0 : (List (List Int)) × (List (List Int))) : Option (((List (List Int)) × (List (List Int)))) :=
  (M.dIntSS a_0.1).bind fun r8 =>
  (M.dIntSS a_0.2).bind fun r18 =>
  some (r8, r18)

noncomputable def M.laws_eqBook (a_0 : (List (List Int)) × (List (List Int))) (b_1 : (List (List Int)) × (List (List Int))) : Option Bool :=
  (M.laws_eqIntSS a_0.1 b_1.1).bind fun r7 =>
  (bif !r7 then
  some false
 else
  (M.laws_eqIntSS a_0.2 b_1.2).bind fun r14 =>
  (bif !r14 then
  some false
 else
  some true))

noncomputable def M.laws_markBook (a_0 : (List (List Int)) × (List (List Int))) (k_1 : Int) : Option Int :=
  (M.markIntSD a_0.1 k_1).bind fun r4 =>
  (M.markIntSD a_0.2 r4).bind fun r9 =>
  some r9

end Go.Vs

namespace Go.Vs

noncomputable def M.impl_validSide (side_0 : List (List Int)) : Option Bool :=
  (bif (side_0.length : Int) != 4 then
  some false
 else
  Option.bind (loopM (fun (s3 : (Int)) => (bif decide (s3 < (side_0.length : Int)) then
  (gidx side_0 s3).bind fun x6 =>
  Option.bind ((bif (x6.length : Int) != 2 then
  some true
 else
  (M.impl_validCoords x6).bind fun r18 =>
  some (!r18))) fun o16 =>
  (bif o16 then
  some (.inr (.inr false))
 else
  some (.inl (w64 (s3 + 1))))
 else
  some (.inr (.inl ())))) 0) (selim (fun t24 => some true)
   (fun t26 => some t26)))

noncomputable def M.impl_ValidBook (b_0 : (List (List Int)) × (List (List Int))) : Option Bool :=
  (M.impl_validSide b_0.1).bind fun r4 =>
  (bif r4 then
  (M.impl_validSide b_0.2).bind fun r10 =>
  some r10
 else
  some false)

noncomputable def M.slices_Grow_int_int (s_0 : List Int) (n_1 : Int) : Option ((List Int)) :=
  (bif decide (n_1 < 0) then
  none
 else
  Option.bind ((bif decide (0 < (w64 (n_1 - (w64 ((s_0.length : Int) - (s_0.length : Int)))))) then
  (gslice s_0 0 (s_0.length : Int)).bind fun xs4 =>
  (gappz xs4 (w64 (n_1 - (w64 ((s_0.length : Int) - (s_0.length : Int))))) (0 : Int)).bind fun xs10 =>
  (gslice xs10 0 (s_0.length : Int)).bind fun xs15 =>
  some xs15
 else
  some s_0)) fun o2 =>
  some o2)

noncomputable def M.slices_Concat_int_int (slices_0 : List (List Int)) : Option ((List Int)) :=
  Option.bind (loopM (fun (s2 : (Int) × (Int)) => (bif decide (s2.2 < (slices_0.length : Int)) then
  (gidx slices_0 s2.2).bind fun x5 =>
  (bif decide ((w64 (s2.1 + (x5.length : Int))) < 0) then
  none
 else
  some (.inl (w64 (s2.1 + (x5.length : Int)), w64 (s2.2 + 1))))
 else
  some (.inr s2.1))) (0, 0)) fun o1 =>
  (M.slices_Grow_int_int ([] : List Int) o1).bind fun r17 =>
  Option.bind (loopM (fun (s24 : (List Int) × (Int)) => (bif decide (s24.2 < (slices_0.length : Int)) then
  (gidx slices_0 s24.2).bind fun x29 =>
  (gapp s24.1 x29).bind fun xs39 =>
  some (.inl (xs39, w64 (s24.2 + 1)))
 else
  some (.inr s24.1))) (r17, 0)) fun o23 =>
  some o23

noncomputable def M.impl_DecodeVector (b_0 : (List (List Int)) × (List (List Int))) (code_1 : Int) : Option ((List Int)) :=
  Option.bind ((M.impl_ValidBook (b_0.1, b_0.2)).bind fun r5 =>
  (bif !r5 then
  some true
 else
  (bif decide (code_1 < 0) then
  some true
 else
  some (decide (16 ≤ code_1))))) fun o3 =>
  (bif o3 then
  some []
 else
  (gidx b_0.1 (w64 (code_1.tdiv 4))).bind fun x14 =>
  (gidx b_0.2 (code_1.tmod 4)).bind fun x25 =>
  (M.slices_Concat_int_int ([x14, x25] : List (List Int))).bind fun r41 =>
  some r41)

noncomputable def M.spec_DecodeVector (b_0 : (List (List Int)) × (List (List Int))) (code_1 : Int) : Option ((List Int)) :=
  Option.bind ((M.spec_validBook (b_0.1, b_0.2)).bind fun r5 =>
  (bif !r5 then
  some true
 else
  (M.spec_inRange code_1 0 15).bind fun r10 =>
  some (!r10))) fun o3 =>
  (bif o3 then
  some []
 else
  (M.spec_decode (b_0.1, b_0.2) code_1).bind fun r17 =>
  some r17)

end Go.Vs

namespace Go.Vs

noncomputable def M.laws_FnExactDecodeVector (aB_0 : (List (List Int)) × (List (List Int))) (aCode_1 : Int) : Option Bool :=
  (M.laws_szBook (aB_0.1, aB_0.2) 1048576).bind fun r4 =>
  (bif decide (r4 < 0) then
  some true
 else
  (M.laws_toBookD (aB_0.1, aB_0.2)).bind fun r10 =>
  (M.spec_DecodeVector (r10.1, r10.2) aCode_1).bind fun r22 =>
  (M.laws_toBookD (aB_0.1, aB_0.2)).bind fun r29 =>
  (M.impl_DecodeVector (r29.1, r29.2) aCode_1).bind fun r45 =>
  (M.laws_eqIntS r45 r22).bind fun r51 =>
  (bif !r51 then
  some false
 else
  (M.laws_toBookD (aB_0.1, aB_0.2)).bind fun r58 =>
  (M.laws_eqBook (r29.1, r29.2) (r58.1, r58.2)).bind fun r70 =>
  (bif !r70 then
  some false
 else
  (M.laws_markBook (r29.1, r29.2) 1).bind fun r76 =>
  Option.bind ((bif decide (r76 < 0) then
  some true
 else
  (M.laws_eqIntS r45 r22).bind fun r82 =>
  some (!r82))) fun o80 =>
  (bif o80 then
  some false
 else
  (M.laws_markIntS r45 1).bind fun r88 =>
  (M.laws_heldIntS r88.2 1).bind fun r93 =>
  (bif decide (r93 < 0) then
  some false
 else
  (bif r93 != r88.1 then
  some false
 else
  (M.laws_toBookD (aB_0.1, aB_0.2)).bind fun r100 =>
  (M.impl_DecodeVector (r100.1, r100.2) aCode_1).bind fun r112 =>
  (M.laws_eqIntS r112 r22).bind fun r122 =>
  (bif !r122 then
  some false
 else
  (M.laws_heldIntS r88.2 1).bind fun r129 =>
  (bif decide (r129 < 0) then
  some false
 else
  (bif r129 != r88.1 then
  some false
 else
  some true)))))))))

end Go.Vs

namespace Go.Vs

end Go.Vs
