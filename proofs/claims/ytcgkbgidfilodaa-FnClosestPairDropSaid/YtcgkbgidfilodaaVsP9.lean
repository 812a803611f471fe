/- Exact laws: what comes in is copied, and the two answers are the same. -/
import Derived.Test.YtcgkbgidfilodaaVsP8
set_option linter.unusedVariables false
set_option linter.unusedSimpArgs false
namespace Go.Vs

theorem toIntS_ok {a : List Int} (h : a.length ≤ 1048576) : M.laws_toIntS a = some a := by
  unfold M.laws_toIntS
  rw [gmake_ok (by omega) (by omega)]
  simp only [Option.bind_some, Int.toNat_natCast]
  have hloop := loop_run (R := List Int) (f := fun (s10 : (List Int) × (Int)) => (bif decide (s10.2 < (a.length : Int)) then
  (gidx a s10.2).bind fun x18 =>
  (gidx s10.1 s10.2).bind fun x23 =>
  some (.inl ((s10.1.set s10.2.toNat x18), w64 (s10.2 + 1)))
 else
  some (.inr s10.1))) (r := a) a.length (fun i => (a.take i ++ List.replicate (a.length - i) 0, (i : Int))) (by
    intro i hi
    have e1 : decide ((i : Int) < (a.length : Int)) = true := by simpa using hi
    have e2 : w64 ((i : Int) + 1) = ((i + 1 : Nat) : Int) := w64_id (by omega) (by omega)
    have hl : i < (a.take i ++ List.replicate (a.length - i) (0 : Int)).length := by simp; omega
    simp only [e1, cond_true, gidx_nat hi, gidx_nat hl, Option.bind_some, e2, Int.toNat_natCast, Option.some.injEq, Sum.inl.injEq, Prod.mk.injEq, and_true]
    rw [List.take_succ_eq_append_getElem hi]
    have hr : List.replicate (a.length - i) (0 : Int) = 0 :: List.replicate (a.length - (i + 1)) 0 := by
      rw [show a.length - i = (a.length - (i + 1)) + 1 by omega, List.replicate_succ]
    rw [hr, List.set_append_right _ _ (by simp; omega)]
    have : i - (a.take i).length = 0 := by simp; omega
    rw [this]; simp only [List.set_cons_zero, List.append_assoc, List.cons_append, List.nil_append]) (by
    have e1 : decide (((a.length : Nat) : Int) < (a.length : Int)) = false := by simp
    simp only [e1, cond_false, List.take_length, Nat.sub_self, List.replicate_zero, List.append_nil])
  simp only [List.take_zero, List.nil_append, Nat.sub_zero, Int.cast_ofNat_Int] at hloop
  rw [hloop]; rfl
theorem eqIntS_ok {a b : List Int} (ha : a.length < 2000000) : M.laws_eqIntS a b = some (decide (a = b)) := equalInts_ok ha

theorem law_ExactValidVector (v : List Int) : M.laws_FnExactValidVector v = some true := by
  unfold M.laws_FnExactValidVector
  by_cases hc : 1048576 < (v.length : Int)
  · simp [hc]
  have hl : v.length ≤ 1048576 := by omega
  simp only [hc, decide_false, cond_false, toIntS_ok hl, Option.bind_some, impl_valid v (by omega), spec_valid v (by omega), bne_self_eq_false, eqIntS_ok (show v.length < 2000000 by omega), decide_true, Bool.not_true]
theorem law_ExactDistance (k : Int) (a b : List Int) : M.laws_FnExactDistance k a b = some true := by
  unfold M.laws_FnExactDistance
  by_cases hc : 1048576 < (a.length : Int)
  · simp [hc]
  by_cases hd : 1048576 < (b.length : Int)
  · simp [hc, hd]
  have la : a.length ≤ 1048576 := by omega
  have lb : b.length ≤ 1048576 := by omega
  simp only [hc, hd, decide_false, cond_false, toIntS_ok la, toIntS_ok lb, Option.bind_some, implDistance_ok k (show a.length < 2000000 by omega) (show b.length < 2000000 by omega), specDistance_ok k (show a.length < 2000000 by omega) (show b.length < 2000000 by omega), bne_self_eq_false, eqIntS_ok (show a.length < 2000000 by omega), eqIntS_ok (show b.length < 2000000 by omega), decide_true, Bool.not_true]
theorem law_ExactDotOf (a b : List Int) : M.laws_FnExactDotOf a b = some true := by
  unfold M.laws_FnExactDotOf
  by_cases hc : 1048576 < (a.length : Int)
  · simp [hc]
  by_cases hd : 1048576 < (b.length : Int)
  · simp [hc, hd]
  have la : a.length ≤ 1048576 := by omega
  have lb : b.length ≤ 1048576 := by omega
  simp only [hc, hd, decide_false, cond_false, toIntS_ok la, toIntS_ok lb, Option.bind_some, implDot_ok (show a.length < 2000000 by omega) (show b.length < 2000000 by omega), specDot_ok (show a.length < 2000000 by omega) (show b.length < 2000000 by omega), bne_self_eq_false, eqIntS_ok (show a.length < 2000000 by omega), eqIntS_ok (show b.length < 2000000 by omega), decide_true, Bool.not_true]
end Go.Vs
