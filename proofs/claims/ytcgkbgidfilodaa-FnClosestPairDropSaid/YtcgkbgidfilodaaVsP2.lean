/- The laws of ValidVector. -/
import Derived.Test.YtcgkbgidfilodaaVsP1
set_option linter.unusedVariables false
set_option linter.unusedSimpArgs false
namespace Go.Vs

theorem drawValidVector_ok (code : List UInt8) : ∃ v, M.spec_DrawValidVector code = some v ∧ Near v := by
  obtain ⟨r, h, g⟩ := newReader_ok code
  obtain ⟨v, r2, h2, _, n⟩ := any_ok (by omega) g
  exact ⟨v, by unfold M.spec_DrawValidVector; simp only [h, h2, Option.bind_some], n⟩

theorem isVec_neg (v : List Int) : isVec (v.map fun x => -x) = isVec v := by
  rw [Bool.eq_iff_iff, isVec_iff, isVec_iff]
  simp only [List.length_map, List.mem_map, forall_exists_index, and_imp, forall_apply_eq_imp_iff₂]
  constructor
  · rintro ⟨h1, h2⟩; exact ⟨h1, fun x hx => by have := h2 x hx; omega⟩
  · rintro ⟨h1, h2⟩; exact ⟨h1, fun x hx => by have := h2 x hx; omega⟩

theorem law_ValidVector (code : List UInt8) : M.laws_FnValidVector code = some true := by
  obtain ⟨v, h, hl, hb⟩ := drawValidVector_ok code
  unfold M.laws_FnValidVector
  by_cases hc : 1048576 < (code.length : Int)
  · simp [hc]
  simp only [hc, decide_false, cond_false, h, Option.bind_some, impl_valid v (by omega), spec_valid v (by omega)]
  rw [show (isVec v != isVec v) = false from by simp, cond_false]
  have hloop := loop_run (R := List Int) (f := fun (s45 : (List Int) × (Int)) => (bif decide (s45.2 < (v.length : Int)) then
  (gidx v s45.2).bind fun x54 =>
  (gapp s45.1 ([w64 (0 - x54)] : List Int)).bind fun xs66 =>
  some (.inl (xs66, w64 (s45.2 + 1)))
 else
  some (.inr s45.1))) (r := v.map fun x => -x) v.length (fun i => ((v.take i).map fun x => -x, (i : Int))) (by
    intro i hi
    have e1 : decide ((i : Int) < (v.length : Int)) = true := by simpa using hi
    have e2 : w64 ((i : Int) + 1) = ((i + 1 : Nat) : Int) := w64_id (by omega) (by omega)
    have hm := hb v[i] (List.getElem_mem _)
    have e3 : w64 (0 - v[i]) = -v[i] := by rw [w64_id (by omega) (by omega)]; omega
    simp only [e1, cond_true, gidx_nat hi, Option.bind_some, e2, e3]
    rw [gapp_ok (by simp; omega)]
    simp only [Option.bind_some]
    rw [List.take_succ_eq_append_getElem hi, List.map_append]; rfl) (by
    have e1 : decide (((v.length : Nat) : Int) < (v.length : Int)) = false := by simp
    simp only [e1, cond_false, List.take_length])
  simp only [List.take_zero, List.map_nil, Int.cast_ofNat_Int] at hloop
  rw [hloop]
  simp only [Option.bind_some]
  rw [impl_valid _ (by simp; omega), isVec_neg]
  simp only [Option.bind_some, BEq.rfl, cond_true]
  rw [gapp_ok (by simp; omega)]
  simp only [Option.bind_some]
  rw [impl_valid _ (by simp; omega)]
  simp only [Option.bind_some]
  by_cases hx : isVec ((v.map fun x => -x) ++ [0]) = true
  · have hx' := (isVec_iff.1 hx).1
    simp only [List.length_append, List.length_map, List.length_cons, List.length_nil] at hx'
    have hv : isVec v = false := by
      rw [Bool.eq_false_iff]; intro h; have := (isVec_iff.1 h).1; omega
    have e : w64 ((v.length : Int) + 1) = 4 := by rw [w64_id (by omega) (by omega)]; omega
    simp [hx, hv, e]
  · simp only [Bool.not_eq_true] at hx
    simp [hx]
end Go.Vs
