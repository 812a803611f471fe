/- Exact laws over flat memory: what is marked is held. -/
import Derived.Test.YtcgkbgidfilodaaVsQ6
set_option linter.unusedVariables false
set_option linter.unusedSimpArgs false
namespace Go.Vs

/-- k, k + 1, .. -/
def upFrom (k : Int) (n : Nat) : List Int := (List.range n).map fun i : Nat => k + (i : Int)
theorem upFrom_len {k : Int} {n : Nat} : (upFrom k n).length = n := by simp [upFrom]
theorem upFrom_get {k : Int} {n i : Nat} (h : i < (upFrom k n).length) : (upFrom k n)[i] = k + (i : Int) := by simp [upFrom]
theorem markIntS_ok {a : List Int} {k : Int} (ha : a.length < 2000000) (h0 : 0 ≤ k) (h1 : k ≤ 2000000000000) : M.laws_markIntS a k = some (k + (a.length : Int), upFrom k a.length) := by
  unfold M.laws_markIntS
  have hloop := loop_run (R := List Int × Int) (f := fun (s2 : (List Int) × (Int) × (Int)) => (bif decide (s2.2.2 < (s2.1.length : Int)) then
  (gidx s2.1 s2.2.2).bind fun x6 =>
  some (.inl ((s2.1.set s2.2.2.toNat s2.2.1), w64 (s2.2.1 + 1), w64 (s2.2.2 + 1)))
 else
  some (.inr (s2.1, s2.2.1)))) (r := (upFrom k a.length, k + (a.length : Int))) a.length (fun i => (upFrom k i ++ a.drop i, k + (i : Int), (i : Int))) (by
    intro i hi
    have hl : (upFrom k i ++ a.drop i).length = a.length := by rw [List.length_append, upFrom_len, List.length_drop]; omega
    have e1 : decide ((i : Int) < ((upFrom k i ++ a.drop i).length : Int)) = true := decide_eq_true (by omega)
    have e2 : w64 ((i : Int) + 1) = ((i + 1 : Nat) : Int) := w64_id (by omega) (by omega)
    have e3 : w64 (k + (i : Int) + 1) = k + ((i + 1 : Nat) : Int) := by rw [w64_id (by omega) (by omega)]; omega
    have hl' : i < (upFrom k i ++ a.drop i).length := by omega
    simp only [e1, cond_true, gidx_nat hl', Option.bind_some, e2, e3, Int.toNat_natCast, Option.some.injEq, Sum.inl.injEq, Prod.mk.injEq, and_true]
    rw [List.set_append_right _ _ (by rw [upFrom_len]; omega), upFrom_len, Nat.sub_self, List.drop_eq_getElem_cons hi, List.set_cons_zero]
    simp [upFrom, List.range_succ]) (by
    have e1 : decide (((a.length : Nat) : Int) < ((upFrom k a.length ++ a.drop a.length).length : Int)) = false := decide_eq_false (by rw [List.length_append, upFrom_len]; simp)
    simp only [List.drop_length, List.append_nil] at e1 ⊢
    simp only [e1, cond_false])
  simp only [upFrom, List.range_zero, List.map_nil, List.nil_append, List.drop_zero, Int.cast_ofNat_Int, Int.add_zero] at hloop
  rw [hloop]; rfl
theorem heldIntS_ok {n : Nat} {k : Int} (ha : n < 2000000) (h0 : 0 ≤ k) (h1 : k ≤ 2000000000000) : M.laws_heldIntS (upFrom k n) k = some (k + (n : Int)) := by
  unfold M.laws_heldIntS
  have hloop := loop_run (R := Int ⊕ Int) (f := fun (s2 : (Int) × (Int)) => (bif decide (s2.2 < ((upFrom k n).length : Int)) then
  (gidx (upFrom k n) s2.2).bind fun x7 =>
  (bif x7 != s2.1 then
  some (.inr (.inr (-1)))
 else
  some (.inl (w64 (s2.1 + 1), w64 (s2.2 + 1))))
 else
  some (.inr (.inl s2.1)))) (r := .inl (k + (n : Int))) n (fun i => (k + (i : Int), (i : Int))) (by
    intro i hi
    have hl : i < (upFrom k n).length := by rw [upFrom_len]; exact hi
    have e1 : decide ((i : Int) < ((upFrom k n).length : Int)) = true := decide_eq_true (by omega)
    have e2 : w64 ((i : Int) + 1) = ((i + 1 : Nat) : Int) := w64_id (by omega) (by omega)
    have e3 : w64 (k + (i : Int) + 1) = k + ((i + 1 : Nat) : Int) := by rw [w64_id (by omega) (by omega)]; omega
    simp only [e1, cond_true, gidx_nat hl, upFrom_get, Option.bind_some, e2, e3, bne_self_eq_false, cond_false]) (by
    have e1 : decide ((n : Int) < ((upFrom k n).length : Int)) = false := decide_eq_false (by rw [upFrom_len]; omega)
    simp only [e1, cond_false])
  simp only [Int.cast_ofNat_Int, Int.add_zero] at hloop
  rw [hloop]; rfl
theorem law_ExactMoveTo (a b : List Int) (p : Int) : M.laws_FnExactMoveTo a b p = some true := by
  unfold M.laws_FnExactMoveTo
  by_cases hc : 1048576 < (a.length : Int)
  · simp [hc]
  by_cases hd : 1048576 < (b.length : Int)
  · simp [hc, hd]
  have la : a.length ≤ 1048576 := by omega
  have lb : b.length ≤ 1048576 := by omega
  have la' : a.length < 2000000 := by omega
  have lb' : b.length < 2000000 := by omega
  have lm : (moveTo a b p).length < 2000000 := moveTo_len
  have hn1 : ¬ (1 + (a.length : Int) + (b.length : Int)) < 0 := by omega
  have hn2 : ¬ (1 + ((moveTo a b p).length : Int)) < 0 := by omega
  simp only [hc, hd, decide_false, cond_false, toIntS_ok la, toIntS_ok lb, Option.bind_some, implMove_ok la' lb', specMove_ok la' lb', eqIntS_ok lm, eqIntS_ok la', eqIntS_ok lb', decide_true, Bool.not_true, markIntS_ok la' (show (0 : Int) ≤ 1 by omega) (show (1 : Int) ≤ 2000000000000 by omega), markIntS_ok (k := 1 + (a.length : Int)) lb' (by omega) (by omega), hn1, markIntS_ok lm (show (0 : Int) ≤ 1 by omega) (show (1 : Int) ≤ 2000000000000 by omega), heldIntS_ok lm (show (0 : Int) ≤ 1 by omega) (show (1 : Int) ≤ 2000000000000 by omega), hn2, bne_self_eq_false]
theorem law_ExactClosestPair (a : List Item) (k : Int) (ha : a.length ≤ 9223372036854775807 ∧ ∀ x ∈ a, (True ∧ ((x.2.1.length ≤ 9223372036854775807 ∧ ∀ y ∈ x.2.1, True) ∧ True))) : M.laws_FnExactClosestPair a k = some true := by
  unfold M.laws_FnExactClosestPair
  obtain ⟨s, es, hs⟩ := szItemS_ok (left := 1048576) ha.1 (fun x hx => (ha.2 x hx).2.1.1) (by omega) (by omega)
  simp only [es, Option.bind_some]
  rcases hs with hs | ⟨h0, h1, h2⟩
  · simp [hs]
  · have hn : ¬ s < 0 := by omega
    have hb : ∀ x ∈ a, x.2.1.length < 2000000 := fun x hx => by have := h2 x hx; omega
    have ss : SmallS a := ⟨by omega, h2⟩
    simp only [hn, decide_false, cond_false, toItemS_ok h1 h2, Option.bind_some, implClosest_ok ss, specClosest_ok ss, bne_self_eq_false, eqItemS_self (by omega) hb, Bool.not_true]
end Go.Vs
