/- What the functions compute. -/
import Derived.Test.YtnkflplbeagljacDoorExactParsePageEng1
import Derived.Test.YtnkflplbeagljacDoorExactParsePageEng2
set_option linter.unusedVariables false
set_option linter.unusedSimpArgs false
namespace Go.Vs

noncomputable def M.impl_validCoords (coords_0 : List Int) : Option Bool :=
  Option.bind (loopM (fun (s2 : (Int)) => (bif decide (s2 < (coords_0.length : Int)) then
  (gidx coords_0 s2).bind fun x5 =>
  Option.bind ((bif decide (x5 < (-100)) then
  some true
 else
  some (decide (100 < x5)))) fun o11 =>
  (bif o11 then
  some (.inr (.inr false))
 else
  some (.inl (w64 (s2 + 1))))
 else
  some (.inr (.inl ())))) 0) (selim (fun t15 => some true)
   (fun t17 => some t17))

noncomputable def M.impl_ValidVector (v_0 : List Int) : Option Bool :=
  (bif (v_0.length : Int) == 4 then
  (M.impl_validCoords v_0).bind fun r2 =>
  some r2
 else
  some false)

noncomputable def M.spec_inRange (n_0 : Int) (low_1 : Int) (high_2 : Int) : Option Bool :=
  (bif decide (low_1 ≤ n_0) then
  some (decide (n_0 ≤ high_2))
 else
  some false)

noncomputable def M.spec_allIn (list_0 : List Int) (low_1 : Int) (high_2 : Int) : Option Bool :=
  Option.bind (loopM (fun (s2 : (Int)) => (bif decide (s2 < (list_0.length : Int)) then
  (gidx list_0 s2).bind fun x7 =>
  (M.spec_inRange x7 low_1 high_2).bind fun r12 =>
  (bif !r12 then
  some (.inr (.inr false))
 else
  some (.inl (w64 (s2 + 1))))
 else
  some (.inr (.inl ())))) 0) (selim (fun t17 => some true)
   (fun t19 => some t19))

noncomputable def M.spec_isVector (v_0 : List Int) : Option Bool :=
  (bif (v_0.length : Int) == 4 then
  (M.spec_allIn v_0 (-100) 100).bind fun r2 =>
  some r2
 else
  some false)

noncomputable def M.laws_equalInts (a_0 : List Int) (b_1 : List Int) : Option Bool :=
  (bif (a_0.length : Int) != (b_1.length : Int) then
  some false
 else
  Option.bind (loopM (fun (s3 : (Int)) => (bif decide (s3 < (a_0.length : Int)) then
  (gidx a_0 s3).bind fun x9 =>
  (gidx b_1 s3).bind fun x14 =>
  (bif x9 != x14 then
  some (.inr (.inr false))
 else
  some (.inl (w64 (s3 + 1))))
 else
  some (.inr (.inl ())))) 0) (selim (fun t21 => some true)
   (fun t23 => some t23)))

noncomputable def M.spec_validItem (x_0 : Int × (List Int) × Int) : Option Bool :=
  (M.spec_inRange x_0.1 1 99).bind fun r7 =>
  (bif r7 then
  (M.spec_isVector x_0.2.1).bind fun r13 =>
  (bif r13 then
  (M.spec_inRange x_0.2.2 0 15).bind fun r19 =>
  some r19
 else
  some false)
 else
  some false)

noncomputable def M.spec_validStore (list_0 : List (Int × (List Int) × Int)) : Option Bool :=
  Option.bind (loopM (fun (s2 : (Int)) => (bif decide (s2 < (list_0.length : Int)) then
  Option.bind ((gidx list_0 s2).bind fun x8 =>
  (M.spec_validItem (x8.1, x8.2.1, x8.2.2)).bind fun r19 =>
  (bif !r19 then
  some true
 else
  (bif decide (0 < s2) then
  (gidx list_0 s2).bind fun x24 =>
  (gidx list_0 (w64 (s2 - 1))).bind fun x29 =>
  some (decide (x24.1 ≤ x29.1))
 else
  some false))) fun o7 =>
  (bif o7 then
  some (.inr (.inr false))
 else
  some (.inl (w64 (s2 + 1))))
 else
  some (.inr (.inl ())))) 0) (selim (fun t39 => some (decide ((list_0.length : Int) ≤ 16)))
   (fun t42 => some t42))

noncomputable def M.impl_validKey (key_0 : Int) : Option Bool :=
  (bif decide (1 ≤ key_0) then
  some (decide (key_0 ≤ 99))
 else
  some false)

noncomputable def M.impl_validTags (tags_0 : Int) : Option Bool :=
  (bif decide (0 ≤ tags_0) then
  some (decide (tags_0 ≤ 15))
 else
  some false)

noncomputable def M.impl_validItem (x_0 : Int × (List Int) × Int) : Option Bool :=
  (M.impl_validKey x_0.1).bind fun r4 =>
  (bif r4 then
  (M.impl_ValidVector x_0.2.1).bind fun r10 =>
  (bif r10 then
  (M.impl_validTags x_0.2.2).bind fun r16 =>
  some r16
 else
  some false)
 else
  some false)

noncomputable def M.impl_ValidStore (list_0 : List (Int × (List Int) × Int)) : Option Bool :=
  (bif decide (16 < (list_0.length : Int)) then
  some false
 else
  Option.bind (loopM (fun (s3 : (Int) × (Int)) => (bif decide (s3.2 < (list_0.length : Int)) then
  (gidx list_0 s3.2).bind fun x8 =>
  Option.bind ((M.impl_validItem (x8.1, x8.2.1, x8.2.2)).bind fun r30 =>
  (bif !r30 then
  some true
 else
  some (decide (x8.1 ≤ s3.1)))) fun o29 =>
  (bif o29 then
  some (.inr (.inr false))
 else
  some (.inl (x8.1, w64 (s3.2 + 1))))
 else
  some (.inr (.inl ())))) (0, 0)) (selim (fun t41 => some true)
   (fun t43 => some t43)))

end Go.Vs

namespace Go.Vs

end Go.Vs

namespace Go.Vs

noncomputable def M.laws_eqIntS (a_0 : List Int) (b_1 : List Int) : Option Bool :=
  (bif (a_0.length : Int) != (b_1.length : Int) then
  some false
 else
  Option.bind (loopM (fun (s3 : (Int)) => (bif decide (s3 < (a_0.length : Int)) then
  (gidx a_0 s3).bind fun x9 =>
  (gidx b_1 s3).bind fun x14 =>
  (bif x9 != x14 then
  some (.inr (.inr false))
 else
  some (.inl (w64 (s3 + 1))))
 else
  some (.inr (.inl ())))) 0) (selim (fun t21 => some true)
   (fun t23 => some t23)))

noncomputable def M.laws_heldIntS (a_0 : List Int) (k_1 : Int) : Option Int :=
  Option.bind (loopM (fun (s2 : (Int) × (Int)) => (bif decide (s2.2 < (a_0.length : Int)) then
  (gidx a_0 s2.2).bind fun x7 =>
  (bif x7 != s2.1 then
  some (.inr (.inr (-1)))
 else
  some (.inl (w64 (s2.1 + 1), w64 (s2.2 + 1))))
 else
  some (.inr (.inl s2.1)))) (k_1, 0)) (selim (fun t13 => some t13)
   (fun t15 => some t15))

noncomputable def M.laws_eqItem (a_0 : Int × (List Int) × Int) (b_1 : Int × (List Int) × Int) : Option Bool :=
  (bif a_0.1 != b_1.1 then
  some false
 else
  (M.laws_eqIntS a_0.2.1 b_1.2.1).bind fun r15 =>
  (bif !r15 then
  some false
 else
  (bif a_0.2.2 != b_1.2.2 then
  some false
 else
  some true)))

noncomputable def M.laws_eqItemS (a_0 : List (Int × (List Int) × Int)) (b_1 : List (Int × (List Int) × Int)) : Option Bool :=
  (bif (a_0.length : Int) != (b_1.length : Int) then
  some false
 else
  Option.bind (loopM (fun (s3 : (Int)) => (bif decide (s3 < (a_0.length : Int)) then
  (gidx a_0 s3).bind fun x9 =>
  (gidx b_1 s3).bind fun x20 =>
  (M.laws_eqItem (x9.1, x9.2.1, x9.2.2) (x20.1, x20.2.1, x20.2.2)).bind fun r32 =>
  (bif !r32 then
  some (.inr (.inr false))
 else
  some (.inl (w64 (s3 + 1))))
 else
  some (.inr (.inl ())))) 0) (selim (fun t37 => some true)
   (fun t39 => some t39)))

noncomputable def M.laws_heldItemS (a_0 : List (Int × (List Int) × Int)) (k_1 : Int) : Option Int :=
  Option.bind (loopM (fun (s2 : (Int) × (Int)) => (bif decide (s2.2 < (a_0.length : Int)) then
  (gidx a_0 s2.2).bind fun x7 =>
  (bif x7.1 != s2.1 then
  some (.inr (.inr (-1)))
 else
  (gidx a_0 s2.2).bind fun x13 =>
  (M.laws_heldIntS x13.2.1 (w64 (s2.1 + 1))).bind fun r23 =>
  (bif decide (r23 < 0) then
  some (.inr (.inr (-1)))
 else
  (gidx a_0 s2.2).bind fun x28 =>
  (bif x28.2.2 != r23 then
  some (.inr (.inr (-1)))
 else
  some (.inl (w64 (r23 + 1), w64 (s2.2 + 1))))))
 else
  some (.inr (.inl s2.1)))) (k_1, 0)) (selim (fun t34 => some t34)
   (fun t36 => some t36))

end Go.Vs

namespace Go.Vs

end Go.Vs

namespace Go.Vs

end Go.Vs

namespace Go.Vs

end Go.Vs

namespace Go.Vs

end Go.Vs

namespace Go.Vs

noncomputable def M.laws_markIntS (a_0 : List Int) (k_1 : Int) : Option (Int × (List Int)) :=
  Option.bind (loopM (fun (s2 : (List Int) × (Int) × (Int)) => (bif decide (s2.2.2 < (s2.1.length : Int)) then
  (gidx s2.1 s2.2.2).bind fun x6 =>
  some (.inl ((s2.1.set s2.2.2.toNat s2.2.1), w64 (s2.2.1 + 1), w64 (s2.2.2 + 1)))
 else
  some (.inr (s2.1, s2.2.1)))) (a_0, k_1, 0)) fun o1 =>
  some (o1.2, o1.1)

end Go.Vs

namespace Go.Vs

end Go.Vs

namespace Go.Vs

end Go.Vs

namespace Go.Vs

end Go.Vs

namespace Go.Vs

end Go.Vs

namespace Go.Vs

end Go.Vs

namespace Go.Vs

end Go.Vs

namespace Go.Vs

end Go.Vs

namespace Go.Vs

end Go.Vs

namespace Go.Vs

end Go.Vs

namespace Go.Vs

noncomputable def M.dmarkItemSB : List (Int × (List Int) × Int) → Int → Option (Int × List (Int × (List Int) × Int))
  | [], k => some (k, [])
  | x :: xs, k => (M.laws_markIntS x.2.1 (w64 (k + 1))).bind fun q => (M.dmarkItemSB xs (w64 (q.1 + 1))).bind fun t => some (t.1, (k, q.2, q.1) :: t.2)

noncomputable def M.markItemB (a : List (Int × (List Int) × Int)) (k : Int) : Option (Int × List (Int × (List Int) × Int)) := if a.length ≤ 2147483648 then M.dmarkItemSB a k else none

theorem markItemB_some {a : List (Int × (List Int) × Int)} {k : Int} {r : Int × List (Int × (List Int) × Int)} (h : M.markItemB a k = some r) : a.length ≤ 2147483648 ∧ M.dmarkItemSB a k = some r := by
  unfold M.markItemB at h; split at h
  · exact ⟨by assumption, h⟩
  · cases h
theorem gidx_mid {β : Type} {A B : List β} {e : β} {i : Nat} (h : A.length = i) : gidx (A ++ e :: B) (i : Int) = some e := by
  subst h
  unfold gidx
  rw [if_pos (by omega)]
  simp
theorem set_mid {β : Type} {A B : List β} {e e' : β} {i : Nat} (h : A.length = i) : (A ++ e :: B).set i e' = A ++ e' :: B := by
  subst h
  rw [List.set_append_right _ _ (Nat.le_refl _), Nat.sub_self, List.set_cons_zero]

end Go.Vs

namespace Go.Vs

end Go.Vs

namespace Go.Vs

end Go.Vs

namespace Go.Vs

end Go.Vs

namespace Go.Vs

end Go.Vs

namespace Go.Vs

end Go.Vs

namespace Go.Vs

noncomputable def M.spec_checkOf (b_0 : List UInt8) : Option Int :=
  Option.bind (loopM (fun (s2 : (Int) × (Int)) => (bif decide (s2.2 < (b_0.length : Int)) then
  (gidx b_0 s2.2).bind fun x5 =>
  some (.inl ((w64 ((w64 (31 * s2.1)) + (w64 (x5.toNat : Int)))).tmod 251, w64 (s2.2 + 1)))
 else
  some (.inr s2.1))) (1, 0)) fun o1 =>
  some o1

noncomputable def M.laws_toByteS (a_0 : List UInt8) : Option ((List UInt8)) :=
  (gmake (a_0.length : Int) ((0 : UInt8) : UInt8)).bind fun xs1 =>
  Option.bind (loopM (fun (s8 : (List UInt8) × (Int)) => (bif decide (s8.2 < (a_0.length : Int)) then
  (gidx a_0 s8.2).bind fun x13 =>
  (gidx s8.1 s8.2).bind fun x19 =>
  some (.inl ((s8.1.set s8.2.toNat x13), w64 (s8.2 + 1)))
 else
  some (.inr s8.1))) (xs1, 0)) fun o7 =>
  some o7

noncomputable def M.laws_eqByteS (a_0 : List UInt8) (b_1 : List UInt8) : Option Bool :=
  (bif (a_0.length : Int) != (b_1.length : Int) then
  some false
 else
  Option.bind (loopM (fun (s3 : (Int)) => (bif decide (s3 < (a_0.length : Int)) then
  (gidx a_0 s3).bind fun x6 =>
  (gidx b_1 s3).bind fun x12 =>
  (bif (x6.toNat : Int) != (x12.toNat : Int) then
  some (.inr (.inr false))
 else
  some (.inl (w64 (s3 + 1))))
 else
  some (.inr (.inl ())))) 0) (selim (fun t21 => some true)
   (fun t23 => some t23)))

noncomputable def M.laws_markByteS (a_0 : List UInt8) (k_1 : Int) : Option (Int × (List UInt8)) :=
  Option.bind (loopM (fun (s2 : (List UInt8) × (Int) × (Int)) => (bif decide (s2.2.2 < (s2.1.length : Int)) then
  (gidx s2.1 s2.2.2).bind fun x6 =>
  some (.inl ((s2.1.set s2.2.2.toNat (gb8 s2.2.1)), w64 (s2.2.1 + 1), w64 (s2.2.2 + 1)))
 else
  some (.inr (s2.1, s2.2.1)))) (a_0, k_1, 0)) fun o1 =>
  some (o1.2, o1.1)

noncomputable def M.spec_ParsePage (b_0 : List UInt8) : Option ((List (Int × (List Int) × Int)) × Bool) :=
  Option.bind ((bif decide ((w64 ((b_0.length : Int) - 1)) < 1) then
  some true
 else
  (gidx b_0 0).bind fun x4 =>
  (bif (w64 ((b_0.length : Int) - 1)) != (w64 (1 + (w64 ((w64 (x4.toNat : Int)) * 6)))) then
  some true
 else
  (gslice b_0 0 (w64 ((b_0.length : Int) - 1))).bind fun xs12 =>
  (M.spec_checkOf xs12).bind fun r18 =>
  (gidx b_0 (w64 ((b_0.length : Int) - 1))).bind fun x21 =>
  some (r18 != (w64 (x21.toNat : Int)))))) fun o1 =>
  (bif o1 then
  some ([], false)
 else
  Option.bind (loopM (fun (s33 : (List (Int × (List Int) × Int)) × (Int)) => (gidx b_0 0).bind fun x37 =>
  (bif decide (s33.2 < (w64 (x37.toNat : Int))) then
  (gslice b_0 (w64 (1 + (w64 (s33.2 * 6)))) (b_0.length : Int)).bind fun xs44 =>
  (gidx xs44 0).bind fun x50 =>
  (gidx xs44 1).bind fun x56 =>
  (gmake 4 (0 : Int)).bind fun xs62 =>
  Option.bind (loopM (fun (s71 : ((Int) × (List Int) × (Int)) × (Int)) => (bif decide (s71.2 < 4) then
  (gidx xs44 (w64 (2 + s71.2))).bind fun x77 =>
  (gidx s71.1.2.1 s71.2).bind fun x85 =>
  some (.inl ((s71.1.1, (s71.1.2.1.set s71.2.toNat (w64 ((w64 (x77.toNat : Int)) - 128))), s71.1.2.2), w64 (s71.2 + 1)))
 else
  some (.inr (s71.1.1, s71.1.2.1, s71.1.2.2)))) ((w64 (x50.toNat : Int), xs62, w64 (x56.toNat : Int)), 0)) fun o70 =>
  (gapp s33.1 ([(o70.1, o70.2.1, o70.2.2)] : List (Int × (List Int) × Int))).bind fun xs99 =>
  some (.inl (xs99, w64 (s33.2 + 1)))
 else
  some (.inr s33.1))) (([] : List (Int × (List Int) × Int)), 0)) fun o32 =>
  (M.spec_validStore o32).bind fun r107 =>
  (bif !r107 then
  some ([], false)
 else
  some (o32, true)))

noncomputable def M.laws_equalBytes (a_0 : List UInt8) (b_1 : List UInt8) : Option Bool :=
  (bif (a_0.length : Int) != (b_1.length : Int) then
  some false
 else
  Option.bind (loopM (fun (s3 : (Int)) => (bif decide (s3 < (a_0.length : Int)) then
  (gidx a_0 s3).bind fun x6 =>
  (gidx b_1 s3).bind fun x12 =>
  (bif (x6.toNat : Int) != (x12.toNat : Int) then
  some (.inr (.inr false))
 else
  some (.inl (w64 (s3 + 1))))
 else
  some (.inr (.inl ())))) 0) (selim (fun t21 => some true)
   (fun t23 => some t23)))

end Go.Vs

namespace Go.Vs

end Go.Vs

namespace Go.Vs

end Go.Vs

namespace Go.Vs

end Go.Vs

namespace Go.Vs

end Go.Vs

namespace Go.Vs

end Go.Vs

namespace Go.Vs

noncomputable def M.impl_CheckOf (b_0 : List UInt8) : Option Int :=
  (bif decide (200 < (b_0.length : Int)) then
  some (-1)
 else
  Option.bind (loopM (fun (s3 : (Int) × (Int)) => (bif decide (s3.2 < (b_0.length : Int)) then
  (gidx b_0 s3.2).bind fun x6 =>
  some (.inl ((w64 ((w64 (31 * s3.1)) + (w64 (x6.toNat : Int)))).tmod 251, w64 (s3.2 + 1)))
 else
  some (.inr s3.1))) (1, 0)) fun o2 =>
  some o2)

noncomputable def M.impl_pageReader_fail (r_0 : (List UInt8) × Int × Int) (err_1 : Int) : Option (((List UInt8) × Int × Int)) :=
  (bif r_0.2.2 == 0 then
  some (r_0.1, r_0.2.1, err_1)
 else
  some (r_0.1, r_0.2.1, r_0.2.2))

noncomputable def M.impl_pageReader_next (r_0 : (List UInt8) × Int × Int) : Option (Int × ((List UInt8) × Int × Int)) :=
  Option.bind ((bif r_0.2.1 == (r_0.1.length : Int) then
  (M.impl_pageReader_fail (r_0.1, r_0.2.1, r_0.2.2) 2).bind fun r8 =>
  some (r8.1, r8.2.1, r8.2.2)
 else
  some (r_0.1, r_0.2.1, r_0.2.2))) fun o5 =>
  (bif o5.2.2 != 0 then
  some (0, (o5.1, o5.2.1, o5.2.2))
 else
  (gidx o5.1 (w64 ((w64 (o5.2.1 + 1)) - 1))).bind fun x25 =>
  some (w64 (x25.toNat : Int), (o5.1, w64 (o5.2.1 + 1), o5.2.2)))

noncomputable def M.impl_pageReader_item (r_0 : (List UInt8) × Int × Int) : Option ((Int × (List Int) × Int) × ((List UInt8) × Int × Int)) :=
  (M.impl_pageReader_next (r_0.1, r_0.2.1, r_0.2.2)).bind fun r3 =>
  (M.impl_pageReader_next (r3.2.1, r3.2.2.1, r3.2.2.2)).bind fun r8 =>
  (gmake 4 (0 : Int)).bind fun xs13 =>
  Option.bind (loopM (fun (s23 : ((List UInt8) × (Int) × (Int)) × ((Int) × (List Int) × (Int)) × (Int)) => (bif decide (s23.2.2 < (xs13.length : Int)) then
  (M.impl_pageReader_next (s23.1.1, s23.1.2.1, s23.1.2.2)).bind fun r31 =>
  (gidx s23.2.1.2.1 s23.2.2).bind fun x37 =>
  some (.inl ((r31.2.1, r31.2.2.1, r31.2.2.2), (s23.2.1.1, (s23.2.1.2.1.set s23.2.2.toNat (w64 (r31.1 - 128))), s23.2.1.2.2), w64 (s23.2.2 + 1)))
 else
  some (.inr ((s23.1.1, s23.1.2.1, s23.1.2.2), (s23.2.1.1, s23.2.1.2.1, s23.2.1.2.2))))) ((r8.2.1, r8.2.2.1, r8.2.2.2), (r3.1, xs13, r8.1), 0)) fun o22 =>
  some ((o22.2.1, o22.2.2.1, o22.2.2.2), (o22.1.1, o22.1.2.1, o22.1.2.2))

noncomputable def M.impl_pageReader_items (r_0 : (List UInt8) × Int × Int) : Option ((List (Int × (List Int) × Int)) × ((List UInt8) × Int × Int)) :=
  (M.impl_pageReader_next (r_0.1, r_0.2.1, r_0.2.2)).bind fun r1 =>
  Option.bind (loopM (fun (s8 : ((List UInt8) × (Int) × (Int)) × (List (Int × (List Int) × Int)) × (Int)) => (bif decide (s8.2.2 < r1.1) then
  (M.impl_pageReader_item (s8.1.1, s8.1.2.1, s8.1.2.2)).bind fun r15 =>
  (gapp s8.2.1 ([(r15.1.1, r15.1.2.1, r15.1.2.2)] : List (Int × (List Int) × Int))).bind fun xs27 =>
  some (.inl ((r15.2.1, r15.2.2.1, r15.2.2.2), xs27, w64 (s8.2.2 + 1)))
 else
  some (.inr ((s8.1.1, s8.1.2.1, s8.1.2.2), s8.2.1)))) ((r1.2.1, r1.2.2.1, r1.2.2.2), [], 0)) fun o7 =>
  some (o7.2, (o7.1.1, o7.1.2.1, o7.1.2.2))

noncomputable def M.impl_pageReader_end (r_0 : (List UInt8) × Int × Int) : Option (((List UInt8) × Int × Int)) :=
  (gslice r_0.1 0 r_0.2.1).bind fun xs5 =>
  (M.impl_CheckOf xs5).bind fun r11 =>
  (M.impl_pageReader_next (r_0.1, r_0.2.1, r_0.2.2)).bind fun r15 =>
  Option.bind ((bif r15.1 != r11 then
  (M.impl_pageReader_fail (r15.2.1, r15.2.2.1, r15.2.2.2) 3).bind fun r24 =>
  some (r24.1, r24.2.1, r24.2.2)
 else
  some (r15.2.1, r15.2.2.1, r15.2.2.2))) fun o21 =>
  (bif decide (o21.2.1 < (o21.1.length : Int)) then
  (M.impl_pageReader_fail (o21.1, o21.2.1, o21.2.2) 1).bind fun r39 =>
  some (r39.1, r39.2.1, r39.2.2)
 else
  some (o21.1, o21.2.1, o21.2.2))

noncomputable def M.impl_ParsePage (b_0 : List UInt8) : Option ((List (Int × (List Int) × Int)) × Bool) :=
  (M.impl_pageReader_items (b_0, 0, 0)).bind fun r4 =>
  (M.impl_pageReader_end (r4.2.1, r4.2.2.1, r4.2.2.2)).bind fun r12 =>
  Option.bind ((bif r12.2.2 != 0 then
  some true
 else
  (M.impl_ValidStore r4.1).bind fun r21 =>
  some (!r21))) fun o18 =>
  (bif o18 then
  some ([], false)
 else
  some (r4.1, true))

end Go.Vs

namespace Go.Vs

noncomputable def M.laws_FnExactParsePage (aB_0 : List UInt8) : Option Bool :=
  (bif decide (1048576 < (aB_0.length : Int)) then
  some true
 else
  (M.laws_toByteS aB_0).bind fun r2 =>
  (M.spec_ParsePage r2).bind fun r11 =>
  (M.laws_toByteS aB_0).bind fun r17 =>
  (M.impl_ParsePage r17).bind fun r24 =>
  Option.bind ((M.laws_eqItemS r24.1 r11.1).bind fun r33 =>
  (bif !r33 then
  some true
 else
  some (r24.2 != r11.2))) fun o32 =>
  (bif o32 then
  some false
 else
  (M.laws_toByteS aB_0).bind fun r40 =>
  (M.laws_eqByteS r17 r40).bind fun r49 =>
  (bif !r49 then
  some false
 else
  (M.laws_markByteS r17 1).bind fun r54 =>
  Option.bind ((bif decide (r54.1 < 0) then
  some true
 else
  (M.laws_eqItemS r24.1 r11.1).bind fun r61 =>
  (bif !r61 then
  some true
 else
  some (r24.2 != r11.2)))) fun o59 =>
  (bif o59 then
  some false
 else
  (M.markItemB r24.1 1).bind fun r68 =>
  (M.laws_heldItemS r68.2 1).bind fun r73 =>
  (bif decide (r73 < 0) then
  some false
 else
  (bif r73 != r68.1 then
  some false
 else
  (M.laws_toByteS aB_0).bind fun r79 =>
  (M.impl_ParsePage r79).bind fun r88 =>
  Option.bind ((M.laws_eqItemS r88.1 r11.1).bind fun r99 =>
  (bif !r99 then
  some true
 else
  some (r88.2 != r11.2))) fun o96 =>
  (bif o96 then
  some false
 else
  (M.laws_heldItemS r68.2 1).bind fun r106 =>
  (bif decide (r106 < 0) then
  some false
 else
  (bif r106 != r68.1 then
  some false
 else
  some true)))))))))

end Go.Vs

namespace Go.Vs

end Go.Vs
