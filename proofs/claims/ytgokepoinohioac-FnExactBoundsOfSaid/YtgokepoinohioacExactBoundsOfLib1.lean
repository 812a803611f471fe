/- What the functions compute. -/
import Derived.Test.YtgokepoinohioacExactBoundsOfEng1
import Derived.Test.YtgokepoinohioacExactBoundsOfEng2
set_option linter.unusedVariables false
set_option linter.unusedSimpArgs false
namespace Go.Vs

noncomputable def M.spec_copyInts (list_0 : List Int) : Option ((List Int)) :=
  (gapp ([] : List Int) list_0).bind fun xs6 =>
  some xs6

noncomputable def M.impl_validCoords (coords_0 : List Int) : Option Bool :=
  Option.bind (loopM (fun (s2 : (Int)) => (bif decide (s2 < (coords_0.length : Int)) then
  (gidx coords_0 s2).bind fun x5 =>
  Option.bind ((bif decide (x5 < (-100)) then
  some true
 else
  some (decide (100 < x5)))) fun o11 =>
  (bif o11 then
  some (.inr (.inr false))
 else
  some (.inl (w64 (s2 + 1))))
 else
  some (.inr (.inl ())))) 0) (selim (fun t15 => some true)
   (fun t17 => some t17))

noncomputable def M.impl_ValidVector (v_0 : List Int) : Option Bool :=
  (bif (v_0.length : Int) == 4 then
  (M.impl_validCoords v_0).bind fun r2 =>
  some r2
 else
  some false)

noncomputable def M.spec_inRange (n_0 : Int) (low_1 : Int) (high_2 : Int) : Option Bool :=
  (bif decide (low_1 ≤ n_0) then
  some (decide (n_0 ≤ high_2))
 else
  some false)

noncomputable def M.spec_allIn (list_0 : List Int) (low_1 : Int) (high_2 : Int) : Option Bool :=
  Option.bind (loopM (fun (s2 : (Int)) => (bif decide (s2 < (list_0.length : Int)) then
  (gidx list_0 s2).bind fun x7 =>
  (M.spec_inRange x7 low_1 high_2).bind fun r12 =>
  (bif !r12 then
  some (.inr (.inr false))
 else
  some (.inl (w64 (s2 + 1))))
 else
  some (.inr (.inl ())))) 0) (selim (fun t17 => some true)
   (fun t19 => some t19))

noncomputable def M.spec_isVector (v_0 : List Int) : Option Bool :=
  (bif (v_0.length : Int) == 4 then
  (M.spec_allIn v_0 (-100) 100).bind fun r2 =>
  some r2
 else
  some false)

noncomputable def M.laws_equalInts (a_0 : List Int) (b_1 : List Int) : Option Bool :=
  (bif (a_0.length : Int) != (b_1.length : Int) then
  some false
 else
  Option.bind (loopM (fun (s3 : (Int)) => (bif decide (s3 < (a_0.length : Int)) then
  (gidx a_0 s3).bind fun x9 =>
  (gidx b_1 s3).bind fun x14 =>
  (bif x9 != x14 then
  some (.inr (.inr false))
 else
  some (.inl (w64 (s3 + 1))))
 else
  some (.inr (.inl ())))) 0) (selim (fun t21 => some true)
   (fun t23 => some t23)))

noncomputable def M.spec_validItem (x_0 : Int × (List Int) × Int) : Option Bool :=
  (M.spec_inRange x_0.1 1 99).bind fun r7 =>
  (bif r7 then
  (M.spec_isVector x_0.2.1).bind fun r13 =>
  (bif r13 then
  (M.spec_inRange x_0.2.2 0 15).bind fun r19 =>
  some r19
 else
  some false)
 else
  some false)

noncomputable def M.spec_validStore (list_0 : List (Int × (List Int) × Int)) : Option Bool :=
  Option.bind (loopM (fun (s2 : (Int)) => (bif decide (s2 < (list_0.length : Int)) then
  Option.bind ((gidx list_0 s2).bind fun x8 =>
  (M.spec_validItem (x8.1, x8.2.1, x8.2.2)).bind fun r19 =>
  (bif !r19 then
  some true
 else
  (bif decide (0 < s2) then
  (gidx list_0 s2).bind fun x24 =>
  (gidx list_0 (w64 (s2 - 1))).bind fun x29 =>
  some (decide (x24.1 ≤ x29.1))
 else
  some false))) fun o7 =>
  (bif o7 then
  some (.inr (.inr false))
 else
  some (.inl (w64 (s2 + 1))))
 else
  some (.inr (.inl ())))) 0) (selim (fun t39 => some (decide ((list_0.length : Int) ≤ 16)))
   (fun t42 => some t42))

noncomputable def M.impl_validKey (key_0 : Int) : Option Bool :=
  (bif decide (1 ≤ key_0) then
  some (decide (key_0 ≤ 99))
 else
  some false)

noncomputable def M.impl_validTags (tags_0 : Int) : Option Bool :=
  (bif decide (0 ≤ tags_0) then
  some (decide (tags_0 ≤ 15))
 else
  some false)

noncomputable def M.impl_validItem (x_0 : Int × (List Int) × Int) : Option Bool :=
  (M.impl_validKey x_0.1).bind fun r4 =>
  (bif r4 then
  (M.impl_ValidVector x_0.2.1).bind fun r10 =>
  (bif r10 then
  (M.impl_validTags x_0.2.2).bind fun r16 =>
  some r16
 else
  some false)
 else
  some false)

noncomputable def M.impl_ValidStore (list_0 : List (Int × (List Int) × Int)) : Option Bool :=
  (bif decide (16 < (list_0.length : Int)) then
  some false
 else
  Option.bind (loopM (fun (s3 : (Int) × (Int)) => (bif decide (s3.2 < (list_0.length : Int)) then
  (gidx list_0 s3.2).bind fun x8 =>
  Option.bind ((M.impl_validItem (x8.1, x8.2.1, x8.2.2)).bind fun r30 =>
  (bif !r30 then
  some true
 else
  some (decide (x8.1 ≤ s3.1)))) fun o29 =>
  (bif o29 then
  some (.inr (.inr false))
 else
  some (.inl (x8.1, w64 (s3.2 + 1))))
 else
  some (.inr (.inl ())))) (0, 0)) (selim (fun t41 => some true)
   (fun t43 => some t43)))

end Go.Vs

namespace Go.Vs

noncomputable def M.spec_BoundsOf (list_0 : List (Int × (List Int) × Int)) : Option ((List Int) × (List Int) × Bool) :=
  Option.bind ((M.spec_validStore list_0).bind fun r2 =>
  (bif !r2 then
  some true
 else
  some ((list_0.length : Int) == 0))) fun o1 =>
  (bif o1 then
  some ([], [], false)
 else
  (gidx list_0 0).bind fun x10 =>
  (M.spec_copyInts x10.2.1).bind fun r20 =>
  (gidx list_0 0).bind fun x27 =>
  (M.spec_copyInts x27.2.1).bind fun r37 =>
  Option.bind (loopM (fun (s47 : (List Int) × (List Int) × (Int)) => (bif decide (s47.2.2 < (list_0.length : Int)) then
  Option.bind (loopM (fun (s60 : (List Int) × (List Int) × (Int)) => (bif decide (s60.2.2 < 4) then
  (gidx s60.1 s60.2.2).bind fun x72 =>
  (gidx list_0 s47.2.2).bind fun x77 =>
  (gidx x77.2.1 s60.2.2).bind fun x87 =>
  (gidx s60.1 s60.2.2).bind fun x93 =>
  (gidx s60.2.1 s60.2.2).bind fun x103 =>
  (gidx list_0 s47.2.2).bind fun x108 =>
  (gidx x108.2.1 s60.2.2).bind fun x118 =>
  (gidx s60.2.1 s60.2.2).bind fun x124 =>
  some (.inl ((s60.1.set s60.2.2.toNat (min x72 x87)), (s60.2.1.set s60.2.2.toNat (max x103 x118)), w64 (s60.2.2 + 1)))
 else
  some (.inr (s60.1, s60.2.1)))) (s47.1, s47.2.1, 0)) fun o59 =>
  some (.inl (o59.1, o59.2, w64 (s47.2.2 + 1)))
 else
  some (.inr (s47.1, s47.2.1)))) (r20, r37, 1)) fun o46 =>
  some (o46.1, o46.2, true))

end Go.Vs

namespace Go.Vs

noncomputable def M.laws_toIntS (a_0 : List Int) : Option ((List Int)) :=
  (gmake (a_0.length : Int) (0 : Int)).bind fun xs1 =>
  Option.bind (loopM (fun (s10 : (List Int) × (Int)) => (bif decide (s10.2 < (a_0.length : Int)) then
  (gidx a_0 s10.2).bind fun x18 =>
  (gidx s10.1 s10.2).bind fun x23 =>
  some (.inl ((s10.1.set s10.2.toNat x18), w64 (s10.2 + 1)))
 else
  some (.inr s10.1))) (xs1, 0)) fun o9 =>
  some o9

noncomputable def M.laws_eqIntS (a_0 : List Int) (b_1 : List Int) : Option Bool :=
  (bif (a_0.length : Int) != (b_1.length : Int) then
  some false
 else
  Option.bind (loopM (fun (s3 : (Int)) => (bif decide (s3 < (a_0.length : Int)) then
  (gidx a_0 s3).bind fun x9 =>
  (gidx b_1 s3).bind fun x14 =>
  (bif x9 != x14 then
  some (.inr (.inr false))
 else
  some (.inl (w64 (s3 + 1))))
 else
  some (.inr (.inl ())))) 0) (selim (fun t21 => some true)
   (fun t23 => some t23)))

noncomputable def M.laws_szIntS (a_0 : List Int) (left_1 : Int) : Option Int :=
  (bif decide ((w64 (left_1 - (a_0.length : Int))) < 0) then
  some (-1)
 else
  some (w64 (left_1 - (a_0.length : Int))))

noncomputable def M.laws_heldIntS (a_0 : List Int) (k_1 : Int) : Option Int :=
  Option.bind (loopM (fun (s2 : (Int) × (Int)) => (bif decide (s2.2 < (a_0.length : Int)) then
  (gidx a_0 s2.2).bind fun x7 =>
  (bif x7 != s2.1 then
  some (.inr (.inr (-1)))
 else
  some (.inl (w64 (s2.1 + 1), w64 (s2.2 + 1))))
 else
  some (.inr (.inl s2.1)))) (k_1, 0)) (selim (fun t13 => some t13)
   (fun t15 => some t15))

noncomputable def M.laws_szItem (a_0 : Int × (List Int) × Int) (left_1 : Int) : Option Int :=
  (M.laws_szIntS a_0.2.1 left_1).bind fun r7 =>
  (bif decide (r7 < 0) then
  some (-1)
 else
  some r7)

noncomputable def M.laws_szItemS (a_0 : List (Int × (List Int) × Int)) (left_1 : Int) : Option Int :=
  (bif decide ((w64 (left_1 - (a_0.length : Int))) < 0) then
  some (-1)
 else
  Option.bind (loopM (fun (s3 : (Int) × (Int)) => (bif decide (s3.2 < (a_0.length : Int)) then
  (gidx a_0 s3.2).bind fun x8 =>
  (M.laws_szItem (x8.1, x8.2.1, x8.2.2) s3.1).bind fun r19 =>
  (bif decide (r19 < 0) then
  some (.inr (.inr (-1)))
 else
  some (.inl (r19, w64 (s3.2 + 1))))
 else
  some (.inr (.inl s3.1)))) (w64 (left_1 - (a_0.length : Int)), 0)) (selim (fun t24 => some t24)
   (fun t26 => some t26)))

noncomputable def M.laws_toItem (a_0 : Int × (List Int) × Int) : Option ((Int × (List Int) × Int)) :=
  (M.laws_toIntS a_0.2.1).bind fun r26 =>
  some (a_0.1, r26, a_0.2.2)

noncomputable def M.laws_eqItem (a_0 : Int × (List Int) × Int) (b_1 : Int × (List Int) × Int) : Option Bool :=
  (bif a_0.1 != b_1.1 then
  some false
 else
  (M.laws_eqIntS a_0.2.1 b_1.2.1).bind fun r15 =>
  (bif !r15 then
  some false
 else
  (bif a_0.2.2 != b_1.2.2 then
  some false
 else
  some true)))

noncomputable def M.laws_eqItemS (a_0 : List (Int × (List Int) × Int)) (b_1 : List (Int × (List Int) × Int)) : Option Bool :=
  (bif (a_0.length : Int) != (b_1.length : Int) then
  some false
 else
  Option.bind (loopM (fun (s3 : (Int)) => (bif decide (s3 < (a_0.length : Int)) then
  (gidx a_0 s3).bind fun x9 =>
  (gidx b_1 s3).bind fun x20 =>
  (M.laws_eqItem (x9.1, x9.2.1, x9.2.2) (x20.1, x20.2.1, x20.2.2)).bind fun r32 =>
  (bif !r32 then
  some (.inr (.inr false))
 else
  some (.inl (w64 (s3 + 1))))
 else
  some (.inr (.inl ())))) 0) (selim (fun t37 => some true)
   (fun t39 => some t39)))

end Go.Vs

namespace Go.Vs

end Go.Vs

namespace Go.Vs

end Go.Vs

namespace Go.Vs

noncomputable def M.impl_BoundsOf (list_0 : List (Int × (List Int) × Int)) : Option ((List Int) × (List Int) × Bool) :=
  Option.bind ((M.impl_ValidStore list_0).bind fun r2 =>
  (bif !r2 then
  some true
 else
  some ((list_0.length : Int) == 0))) fun o1 =>
  (bif o1 then
  some ([], [], false)
 else
  (gidx list_0 0).bind fun x9 =>
  (garr 4 x9.2.1).bind fun xs19 =>
  (gidx list_0 0).bind fun x26 =>
  (garr 4 x26.2.1).bind fun xs36 =>
  (gslice list_0 1 (list_0.length : Int)).bind fun xs48 =>
  Option.bind (loopM (fun (s55 : (List Int) × (List Int) × (Int)) => (bif decide (s55.2.2 < (xs48.length : Int)) then
  (gidx xs48 s55.2.2).bind fun x60 =>
  Option.bind (loopM (fun (s75 : (List Int) × (List Int) × (Int)) => (bif decide (s75.2.2 < (x60.2.1.length : Int)) then
  (gidx x60.2.1 s75.2.2).bind fun x80 =>
  (gidx s75.1 s75.2.2).bind fun x86 =>
  (gidx s75.1 s75.2.2).bind fun x90 =>
  (gidx s75.2.1 s75.2.2).bind fun x95 =>
  (gidx s75.2.1 s75.2.2).bind fun x99 =>
  some (.inl ((s75.1.set s75.2.2.toNat (min x86 x80)), (s75.2.1.set s75.2.2.toNat (max x95 x80)), w64 (s75.2.2 + 1)))
 else
  some (.inr (s75.1, s75.2.1)))) (s55.1, s55.2.1, 0)) fun o74 =>
  some (.inl (o74.1, o74.2, w64 (s55.2.2 + 1)))
 else
  some (.inr (s55.1, s55.2.1)))) ((List.take 4 x9.2.1), (List.take 4 x26.2.1), 0)) fun o54 =>
  some (o54.1, o54.2, true))

end Go.Vs

namespace Go.Vs

end Go.Vs

namespace Go.Vs

noncomputable def M.laws_markIntS (a_0 : List Int) (k_1 : Int) : Option (Int × (List Int)) :=
  Option.bind (loopM (fun (s2 : (List Int) × (Int) × (Int)) => (bif decide (s2.2.2 < (s2.1.length : Int)) then
  (gidx s2.1 s2.2.2).bind fun x6 =>
  some (.inl ((s2.1.set s2.2.2.toNat s2.2.1), w64 (s2.2.1 + 1), w64 (s2.2.2 + 1)))
 else
  some (.inr (s2.1, s2.2.1)))) (a_0, k_1, 0)) fun o1 =>
  some (o1.2, o1.1)

end Go.Vs

namespace Go.Vs

end Go.Vs

namespace Go.Vs

end Go.Vs

namespace Go.Vs

end Go.Vs

namespace Go.Vs

open Classical in
noncomputable def M.dItemS (a : List (Int × (List Int) × Int)) : Option (List (Int × (List Int) × Int)) :=
  if a.length ≤ 2147483648 ∧ ∀ x ∈ a, M.laws_toIntS x.2.1 = some x.2.1 then some a else none

noncomputable def M.dmarkItemS : List (Int × (List Int) × Int) → Int → Option Int
  | [], k => some k
  | x :: xs, k => (M.laws_markIntS x.2.1 (w64 (k + 1))).bind fun q => M.dmarkItemS xs (w64 (q.1 + 1))

noncomputable def M.markItemD (a : List (Int × (List Int) × Int)) (k : Int) : Option Int := if a.length ≤ 2147483648 then M.dmarkItemS a k else none

theorem markItemD_some {a : List (Int × (List Int) × Int)} {k r : Int} (h : M.markItemD a k = some r) : a.length ≤ 2147483648 ∧ M.dmarkItemS a k = some r := by
  unfold M.markItemD at h; split at h
  · exact ⟨by assumption, h⟩
  · cases h
theorem dItemS_some {a r : List (Int × (List Int) × Int)} (h : M.dItemS a = some r) : a.length ≤ 2147483648 ∧ (∀ x ∈ a, M.laws_toItem x = some x) ∧ r = a := by
  unfold M.dItemS at h
  split at h
  · rename_i hc
    refine ⟨hc.1, fun x hx => ?_, (Option.some.inj h).symm⟩
    unfold M.laws_toItem
    rw [hc.2 x hx]; rfl
  · cases h
theorem gmake_nat {α : Type} (n : Nat) (z : α) (h : n ≤ 2147483648) : gmake (n : Int) z = some (List.replicate n z) := by
  unfold gmake
  rw [if_pos (by omega)]; simp
end Go.Vs

namespace Go.Vs

noncomputable def M.laws_FnExactBoundsOf (aList_0 : List (Int × (List Int) × Int)) : Option Bool :=
  (M.laws_szItemS aList_0 1048576).bind fun r1 =>
  (bif decide (r1 < 0) then
  some true
 else
  (M.dItemS aList_0).bind fun r6 =>
  (M.spec_BoundsOf r6).bind fun r14 =>
  (M.dItemS aList_0).bind fun r22 =>
  (M.impl_BoundsOf r22).bind fun r30 =>
  Option.bind ((M.laws_eqIntS r30.1 r14.1).bind fun r41 =>
  (bif !r41 then
  some true
 else
  (M.laws_eqIntS r30.2.1 r14.2.1).bind fun r46 =>
  (bif !r46 then
  some true
 else
  some (r30.2.2 != r14.2.2)))) fun o40 =>
  (bif o40 then
  some false
 else
  (M.dItemS aList_0).bind fun r53 =>
  (M.laws_eqItemS r22 r53).bind fun r61 =>
  (bif !r61 then
  some false
 else
  (M.markItemD r22 1).bind fun r66 =>
  Option.bind ((bif decide (r66 < 0) then
  some true
 else
  (M.laws_eqIntS r30.1 r14.1).bind fun r72 =>
  (bif !r72 then
  some true
 else
  (M.laws_eqIntS r30.2.1 r14.2.1).bind fun r77 =>
  (bif !r77 then
  some true
 else
  some (r30.2.2 != r14.2.2))))) fun o70 =>
  (bif o70 then
  some false
 else
  (M.laws_markIntS r30.1 1).bind fun r84 =>
  (M.laws_markIntS r30.2.1 r84.1).bind fun r89 =>
  (M.laws_heldIntS r84.2 1).bind fun r94 =>
  (bif decide (r94 < 0) then
  some false
 else
  (M.laws_heldIntS r89.2 r94).bind fun r99 =>
  (bif decide (r99 < 0) then
  some false
 else
  (bif r99 != r89.1 then
  some false
 else
  (M.dItemS aList_0).bind fun r105 =>
  (M.impl_BoundsOf r105).bind fun r113 =>
  Option.bind ((M.laws_eqIntS r113.1 r14.1).bind fun r128 =>
  (bif !r128 then
  some true
 else
  (M.laws_eqIntS r113.2.1 r14.2.1).bind fun r137 =>
  (bif !r137 then
  some true
 else
  some (r113.2.2 != r14.2.2)))) fun o123 =>
  (bif o123 then
  some false
 else
  (M.laws_heldIntS r84.2 1).bind fun r146 =>
  (bif decide (r146 < 0) then
  some false
 else
  (M.laws_heldIntS r89.2 r146).bind fun r153 =>
  (bif decide (r153 < 0) then
  some false
 else
  (bif r153 != r89.1 then
  some false
 else
  some true)))))))))))

end Go.Vs

namespace Go.Vs

end Go.Vs

namespace Go.Vs

end Go.Vs

namespace Go.Vs

end Go.Vs

namespace Go.Vs

end Go.Vs

namespace Go.Vs

end Go.Vs

namespace Go.Vs

end Go.Vs

namespace Go.Vs

end Go.Vs

namespace Go.Vs

end Go.Vs

namespace Go.Vs

end Go.Vs

namespace Go.Vs

end Go.Vs

namespace Go.Vs

end Go.Vs

namespace Go.Vs

end Go.Vs

namespace Go.Vs

end Go.Vs

namespace Go.Vs

end Go.Vs

namespace Go.Vs

end Go.Vs

namespace Go.Vs

end Go.Vs

namespace Go.Vs

end Go.Vs

namespace Go.Vs

end Go.Vs

namespace Go.Vs

end Go.Vs

namespace Go.Vs

end Go.Vs
