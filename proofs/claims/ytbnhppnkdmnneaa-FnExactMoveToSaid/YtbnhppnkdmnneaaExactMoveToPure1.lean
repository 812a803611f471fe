/- Plain facts of what the functions compute. -/
import Derived.Test.YtbnhppnkdmnneaaExactMoveToEng1
import Derived.Test.YtbnhppnkdmnneaaExactMoveToLib1
set_option linter.unusedVariables false
set_option linter.unusedSimpArgs false
namespace Go.Vs

theorem loop_run {S R : Type} {f : S → Option (S ⊕ R)} {r : R} (k : Nat) (st : Nat → S) (hs : ∀ i, i < k → f (st i) = some (.inl (st (i + 1)))) (he : f (st k) = some (.inr r)) : loopM f (st 0) = some r := by
  induction k generalizing st with
  | zero => rw [loopM_eq, he]; rfl
  | succ k ih =>
    rw [loopM_eq, hs 0 (by omega)]
    exact ih (fun i => st (i + 1)) (fun i hi => hs (i + 1) (by omega)) he

theorem gidx_nat {α : Type} {xs : List α} {i : Nat} (h : i < xs.length) : gidx xs (i : Int) = some xs[i] := by
  unfold gidx
  rw [if_pos (by omega)]
  simp [h]
theorem gapp_ok {α : Type} {xs ys : List α} (h : xs.length + ys.length ≤ 2147483648) : gapp xs ys = some (xs ++ ys) := by unfold gapp; rw [if_pos h]
theorem grem_ok {a b : Int} (h : b ≠ 0) : grem a b = some (a.tmod b) := by unfold grem; rw [if_neg h]
theorem gquo_ok {a b : Int} (h : b ≠ 0) : gquo a b = some (w64 (a.tdiv b)) := by unfold gquo; rw [if_neg h]
theorem gmake_ok {α : Type} {k : Int} {z : α} (h0 : 0 ≤ k) (h1 : k ≤ 2147483648) : gmake k z = some (List.replicate k.toNat z) := by unfold gmake; rw [if_pos ⟨h0, h1⟩]
theorem tdiv_range {a b : Int} (ha : 0 ≤ a) (hb : 0 < b) : 0 ≤ a.tdiv b ∧ a.tdiv b ≤ a := by
  rw [Int.tdiv_eq_ediv_of_nonneg ha]
  exact ⟨Int.ediv_nonneg ha (by omega), Int.ediv_le_self _ ha⟩
/-- A loop that looks at each element, and leaves at the first that fails. -/
theorem loop_all {α R : Type} {xs : List α} {P : α → Bool} {r : R} {f : Int → Option (Int ⊕ (Unit ⊕ R))} (hs : ∀ i (h : i < xs.length), f (i : Int) = some (if P xs[i] then .inl ((i : Int) + 1) else .inr (.inr r))) (he : f (xs.length : Int) = some (.inr (.inl ()))) :
    loopM f 0 = some (if xs.all P then .inl () else .inr r) := by
  have key : ∀ m k : Nat, k + m = xs.length → loopM f (k : Int) = some (if (xs.drop k).all P then .inl () else .inr r) := by
    intro m
    induction m with
    | zero =>
      intro k hk
      have : k = xs.length := by omega
      subst this
      rw [loopM_eq, he]; simp [selim]
    | succ m ih =>
      intro k hk
      have hlt : k < xs.length := by omega
      rw [loopM_eq, hs k hlt, List.drop_eq_getElem_cons hlt]
      by_cases hp : P xs[k] = true
      · rw [if_pos hp]
        have := ih (k + 1) (by omega)
        simp only [Int.natCast_add, Int.cast_ofNat_Int] at this
        simp only [List.all_cons, hp, Bool.true_and, selim, this, Option.bind_some]
      · rw [if_neg hp]
        simp only [List.all_cons, Bool.not_eq_true] at hp ⊢
        simp only [hp, Bool.false_and, selim, Option.bind_some]; rfl
  have := key xs.length 0 (by omega)
  simpa using this
end Go.Vs

namespace Go.Vs

/-- A reader that has been asked at most k times. -/
def Good (k : Nat) (r : List UInt8 × Int) : Prop := r.1.length ≤ 2000 ∧ 0 ≤ r.2 ∧ r.2 ≤ k
theorem Good.mono {k m : Nat} {r : List UInt8 × Int} (h : Good k r) (hm : k ≤ m) : Good m r := ⟨h.1, h.2.1, by have := h.2.2; omega⟩

/-- A valid vector. -/
def isVec (v : List Int) : Bool := decide (v.length = 4) && v.all fun x => decide (-100 ≤ x) && decide (x ≤ 100)
theorem isVec_iff {v : List Int} : isVec v = true ↔ v.length = 4 ∧ ∀ x ∈ v, -100 ≤ x ∧ x ≤ 100 := by
  unfold isVec; simp
theorem isVec_four {v : List Int} (h : isVec v = true) : ∃ a b c d, v = [a, b, c, d] ∧ (-100 ≤ a ∧ a ≤ 100) ∧ (-100 ≤ b ∧ b ≤ 100) ∧ (-100 ≤ c ∧ c ≤ 100) ∧ (-100 ≤ d ∧ d ≤ 100) := by
  obtain ⟨h1, h2⟩ := isVec_iff.1 h
  match v, h1 with
  | [a, b, c, d], _ => exact ⟨a, b, c, d, rfl, h2 a (by simp), h2 b (by simp), h2 c (by simp), h2 d (by simp)⟩

end Go.Vs
namespace Go.Vs
/-- A vector that may be drawn. -/
def Near (v : List Int) : Prop := v.length ≤ 5 ∧ ∀ x ∈ v, -101 ≤ x ∧ x ≤ 101
theorem implCoords_ok (v : List Int) (hb : v.length < 2000000) : M.impl_validCoords v = some (v.all fun x => decide (-100 ≤ x) && decide (x ≤ 100)) := by
  unfold M.impl_validCoords
  rw [loop_all (xs := v) (P := fun x => decide (-100 ≤ x) && decide (x ≤ 100)) (r := false)]
  · by_cases ha : (v.all fun x => decide (-100 ≤ x) && decide (x ≤ 100)) = true
    · simp only [ha, if_true, Option.bind_some, selim]
    · simp only [Bool.not_eq_true] at ha
      simp only [ha]; simp [selim]
  · intro i h
    have e1 : decide ((i : Int) < (v.length : Int)) = true := by simpa using h
    have e2 : w64 ((i : Int) + 1) = (i : Int) + 1 := w64_id (by omega) (by omega)
    simp only [e1, cond_true, gidx_nat h, Option.bind_some, e2]
    by_cases c1 : v[i] < -100
    · have c2 : ¬ (-100 ≤ v[i]) := by omega
      simp [c1, c2]
    · by_cases c3 : 100 < v[i]
      · have c4 : ¬ (v[i] ≤ 100) := by omega
        simp [c1, c3, c4]
      · simp [c1, c3, show -100 ≤ v[i] by omega, show v[i] ≤ 100 by omega]
  · simp
theorem impl_valid (v : List Int) (hb : v.length < 2000000) : M.impl_ValidVector v = some (isVec v) := by
  unfold M.impl_ValidVector
  simp only [implCoords_ok v hb, Option.bind_some]
  unfold isVec
  by_cases hl : v.length = 4
  · have e : ((v.length : Int) == 4) = true := by simp; omega
    rw [e, cond_true, decide_eq_true hl, Bool.true_and]
  · have e : ((v.length : Int) == 4) = false := by simp; omega
    rw [e, cond_false, decide_eq_false hl, Bool.false_and]
theorem spec_inR (n l h : Int) : M.spec_inRange n l h = some (decide (l ≤ n) && decide (n ≤ h)) := by
  unfold M.spec_inRange
  by_cases h1 : l ≤ n <;> simp [h1]
theorem spec_all (v : List Int) (l h : Int) (hb : v.length < 2000000) : M.spec_allIn v l h = some (v.all fun x => decide (l ≤ x) && decide (x ≤ h)) := by
  unfold M.spec_allIn
  rw [loop_all (xs := v) (P := fun x => decide (l ≤ x) && decide (x ≤ h)) (r := false)]
  · by_cases ha : (v.all fun x => decide (l ≤ x) && decide (x ≤ h)) = true
    · simp only [ha, if_true, Option.bind_some, selim]
    · simp only [Bool.not_eq_true] at ha
      simp [ha, selim]
  · intro i hi
    have e1 : decide ((i : Int) < (v.length : Int)) = true := by simpa using hi
    have e2 : w64 ((i : Int) + 1) = (i : Int) + 1 := w64_id (by omega) (by omega)
    simp only [e1, cond_true, gidx_nat hi, Option.bind_some, e2, spec_inR]
    cases (decide (l ≤ v[i]) && decide (v[i] ≤ h)) <;> rfl
  · simp
theorem spec_isVec (v : List Int) (hb : v.length < 2000000) : M.spec_isVector v = some (isVec v) := by
  unfold M.spec_isVector
  by_cases hl : v.length = 4
  · have e : ((v.length : Int) == 4) = true := by simp; omega
    simp [e, spec_all v _ _ hb, isVec, hl]
  · have e : ((v.length : Int) == 4) = false := by simp; omega
    simp [e, isVec, hl]
end Go.Vs

namespace Go.Vs

end Go.Vs

namespace Go.Vs

theorem loop4 {S R : Type} {f : S → Option (S ⊕ R)} {s0 s1 s2 s3 s4 : S} {r : R} (h0 : f s0 = some (.inl s1)) (h1 : f s1 = some (.inl s2)) (h2 : f s2 = some (.inl s3)) (h3 : f s3 = some (.inl s4)) (h4 : f s4 = some (.inr r)) : loopM f s0 = some r := by
  rw [loopM_eq, h0, Option.bind_some, selim, loopM_eq, h1, Option.bind_some, selim, loopM_eq, h2, Option.bind_some, selim, loopM_eq, h3, Option.bind_some, selim, loopM_eq, h4]; rfl
theorem gi0 {α : Type} {a : α} {l : List α} : gidx (a :: l) 0 = some a := gidx_nat (i := 0) (by simp)
theorem gi1 {α : Type} {a b : α} {l : List α} : gidx (a :: b :: l) 1 = some b := gidx_nat (i := 1) (by simp)
theorem gi2 {α : Type} {a b c : α} {l : List α} : gidx (a :: b :: c :: l) 2 = some c := gidx_nat (i := 2) (by simp)
theorem gi3 {α : Type} {a b c d : α} {l : List α} : gidx (a :: b :: c :: d :: l) 3 = some d := gidx_nat (i := 3) (by simp)
theorem i01 : w64 ((0 : Int) + 1) = 1 := w64_id (by omega) (by omega)
theorem i12 : w64 ((1 : Int) + 1) = 2 := w64_id (by omega) (by omega)
theorem i23 : w64 ((2 : Int) + 1) = 3 := w64_id (by omega) (by omega)
theorem i34 : w64 ((3 : Int) + 1) = 4 := w64_id (by omega) (by omega)
theorem d04 : decide ((0 : Int) < 4) = true := rfl
theorem d14 : decide ((1 : Int) < 4) = true := rfl
theorem d24 : decide ((2 : Int) < 4) = true := rfl
theorem d34 : decide ((3 : Int) < 4) = true := rfl
theorem d44 : decide ((4 : Int) < 4) = false := rfl
/-- A coordinate. -/
def Co (x : Int) : Prop := -100 ≤ x ∧ x ≤ 100
end Go.Vs

namespace Go.Vs

theorem isVec_cut {v : List Int} (h : isVec v = true) : ∃ a b c d, v = [a, b, c, d] ∧ Co a ∧ Co b ∧ Co c ∧ Co d := isVec_four h

theorem equalInts_ok {a b : List Int} (ha : a.length < 2000000) : M.laws_equalInts a b = some (decide (a = b)) := by
  unfold M.laws_equalInts
  by_cases hl : a.length = b.length
  · have e : ((a.length : Int) != (b.length : Int)) = false := by simp; omega
    simp only [e, cond_false]
    rw [loop_all (xs := a.zip b) (P := fun p => p.1 == p.2) (r := false)]
    · by_cases h : a = b
      · subst h
        have : (a.zip a).all (fun p => p.1 == p.2) = true := by
          rw [List.all_eq_true]; intro p hp
          obtain ⟨i, hi, rfl⟩ := List.mem_iff_getElem.1 hp
          simp
        rw [if_pos this]; simp [selim]
      · have : ¬ (a.zip b).all (fun p => p.1 == p.2) = true := by
          intro hh; apply h
          apply List.ext_getElem hl
          intro i h1 h2
          rw [List.all_eq_true] at hh
          have := hh (a[i], b[i]) (List.mem_iff_getElem.2 ⟨i, by simp; omega, by simp⟩)
          simpa using this
        rw [if_neg this]; simp [selim, h]
    · intro i hi
      have hi1 : i < a.length := by simp at hi; omega
      have hi2 : i < b.length := by simp at hi; omega
      have e1 : decide ((i : Int) < (a.length : Int)) = true := by simpa using hi1
      have e2 : w64 ((i : Int) + 1) = (i : Int) + 1 := w64_id (by omega) (by omega)
      simp only [e1, cond_true, gidx_nat hi1, gidx_nat hi2, Option.bind_some, e2, List.getElem_zip]
      by_cases hc : a[i] = b[i]
      · simp [hc]
      · have hb : (a[i] == b[i]) = false := by simpa using hc
        have hb' : (a[i] != b[i]) = true := by simpa using hc
        simp [hb, hb']
    · have : (a.zip b).length = a.length := by simp; omega
      rw [this]; simp
  · have e : ((a.length : Int) != (b.length : Int)) = true := by simp; omega
    have : a ≠ b := fun h => hl (by rw [h])
    simp [e, this]

/-- Gaps of two vectors. -/
structure Gaps (g0 g1 g2 g3 : Int) : Prop where
  n0 : 0 ≤ g0
  n1 : 0 ≤ g1
  n2 : 0 ≤ g2
  n3 : 0 ≤ g3
  m0 : g0 ≤ 200
  m1 : g1 ≤ 200
  m2 : g2 ≤ 200
  m3 : g3 ≤ 200
end Go.Vs

namespace Go.Vs

end Go.Vs

namespace Go.Vs

theorem down_eq {n m : Int} (hm : 0 < m) : (if n.tmod m < 0 then n.tdiv m - 1 else n.tdiv m) = n / m := by
  have e := Int.mul_tdiv_add_tmod n m
  have h1 : n.tmod m < m := Int.tmod_lt_of_pos n hm
  have h2 : -m < n.tmod m := by
    have := Int.lt_tmod_of_pos n hm
    omega
  by_cases c : n.tmod m < 0
  · rw [if_pos c]
    have : n = (n.tmod m + m) + (n.tdiv m - 1) * m := by
      rw [Int.sub_mul, Int.mul_comm (n.tdiv m) m]; omega
    conv => rhs; rw [this]
    rw [Int.add_mul_ediv_right _ _ (by omega), Int.ediv_eq_zero_of_lt (by omega) (by omega)]; omega
  · rw [if_neg c]
    have : n = n.tmod m + n.tdiv m * m := by
      rw [Int.mul_comm (n.tdiv m) m]; omega
    conv => rhs; rw [this]
    rw [Int.add_mul_ediv_right _ _ (by omega), Int.ediv_eq_zero_of_lt (by omega) (by omega)]; omega
theorem tdiv_abs {n m : Int} (hm : 0 < m) (h1 : -1000000000 ≤ n) (h2 : n ≤ 1000000000) : -1000000000 ≤ n.tdiv m ∧ n.tdiv m ≤ 1000000000 := by
  rcases Int.le_total 0 n with h | h
  · have := tdiv_range h hm; omega
  · have := tdiv_range (a := -n) (b := m) (by omega) hm
    rw [Int.neg_tdiv] at this; omega
theorem implDown_ok {n m : Int} (hm : 0 < m) (h1 : -1000000000 ≤ n) (h2 : n ≤ 1000000000) : M.impl_divideDown n m = some (n / m) := by
  have t := tdiv_abs hm h1 h2
  unfold M.impl_divideDown
  rw [gquo_ok (by omega), grem_ok (by omega), w64_id (by omega) (by omega)]
  simp only [Option.bind_some]
  rw [← down_eq hm]
  by_cases c : n.tmod m < 0
  · rw [if_pos c, w64_id (by omega) (by omega)]; simp [c]
  · rw [if_neg c]; simp [c]
theorem specDown_ok {n m : Int} (hm : 0 < m) (h1 : -1000000000 ≤ n) (h2 : n ≤ 1000000000) : M.spec_floorDiv n m = some (n / m) := implDown_ok hm h1 h2

/-- A coordinate that moves. -/
def mv (p a b : Int) : Int := a + (b - a) * p / 1000
theorem mv_prod {p a b : Int} (ha : Co a) (hb : Co b) (h0 : 0 ≤ p) (h1 : p ≤ 1000) : (0 ≤ b - a → 0 ≤ (b - a) * p ∧ (b - a) * p ≤ (b - a) * 1000) ∧ (b - a ≤ 0 → (b - a) * 1000 ≤ (b - a) * p ∧ (b - a) * p ≤ 0) := by
  refine ⟨fun h => ⟨Int.mul_nonneg h h0, Int.mul_le_mul_of_nonneg_left h1 h⟩, fun h => ⟨Int.mul_le_mul_of_nonpos_left h h1, ?_⟩⟩
  exact Int.mul_nonpos_of_nonpos_of_nonneg h h0
theorem mv_between {p a b : Int} (ha : Co a) (hb : Co b) (h0 : 0 ≤ p) (h1 : p ≤ 1000) : min a b ≤ mv p a b ∧ mv p a b ≤ max a b := by
  have h := mv_prod ha hb h0 h1
  unfold mv
  rcases Int.le_total 0 (b - a) with c | c
  · have := h.1 c; generalize (b - a) * p = q at *; omega
  · have := h.2 c; generalize (b - a) * p = q at *; omega
theorem mv_co {p a b : Int} (ha : Co a) (hb : Co b) (h0 : 0 ≤ p) (h1 : p ≤ 1000) : Co (mv p a b) := by
  have := mv_between ha hb h0 h1
  unfold Co at *; omega
/-- What MoveTo answers. -/
def moveTo (a b : List Int) (p : Int) : List Int :=
  if isVec a = true ∧ isVec b = true ∧ 0 ≤ p ∧ p ≤ 1000 then [mv p (a.getD 0 0) (b.getD 0 0), mv p (a.getD 1 0) (b.getD 1 0), mv p (a.getD 2 0) (b.getD 2 0), mv p (a.getD 3 0) (b.getD 3 0)] else []

theorem mv_step {p a b : Int} (ha : Co a) (hb : Co b) (h0 : 0 ≤ p) (h1 : p ≤ 1000) : w64 (w64 (b - a) * p) = (b - a) * p ∧ -1000000000 ≤ (b - a) * p ∧ (b - a) * p ≤ 1000000000 ∧ w64 (a + (b - a) * p / 1000) = mv p a b := by
  have h := mv_prod ha hb h0 h1
  have m := mv_co ha hb h0 h1
  have ha' := ha
  have hb' := hb
  unfold Co at ha' hb'
  have e : w64 (b - a) = b - a := w64_id (by omega) (by omega)
  have hq : -1000000000 ≤ (b - a) * p ∧ (b - a) * p ≤ 1000000000 := by
    rcases Int.le_total 0 (b - a) with c | c
    · have := h.1 c; omega
    · have := h.2 c; omega
  refine ⟨by rw [e]; exact w64_id (by omega) (by omega), hq.1, hq.2, ?_⟩
  unfold Co at m
  have m' : -100 ≤ a + (b - a) * p / 1000 ∧ a + (b - a) * p / 1000 ≤ 100 := m
  rw [w64_id (by omega) (by omega)]; rfl

theorem implMove_ok {a b : List Int} (ha : a.length < 2000000) (hb : b.length < 2000000) (p : Int) : M.impl_MoveTo a b p = some (moveTo a b p) := by
  unfold M.impl_MoveTo
  simp only [impl_valid a ha, Option.bind_some]
  by_cases va : isVec a = true
  · simp only [va, Bool.not_true, cond_false, impl_valid b hb, Option.bind_some]
    by_cases vb : isVec b = true
    · simp only [vb, Bool.not_true, cond_false]
      by_cases h0 : p < 0
      · simp [h0, moveTo]; intro _ _; omega
      · simp only [h0, decide_false, cond_false, Option.bind_some]
        by_cases h1 : 1000 < p
        · simp [h1, moveTo]
        · have h0' : 0 ≤ p := by omega
          have h1' : p ≤ 1000 := by omega
          simp only [h1, decide_false, cond_false, moveTo, va, vb, h0', h1', and_self, if_true]
          obtain ⟨x0, x1, x2, x3, rfl, c0, c1, c2, c3⟩ := isVec_cut va
          obtain ⟨y0, y1, y2, y3, rfl, e0, e1, e2, e3⟩ := isVec_cut vb
          obtain ⟨p0, q0, r0, s0⟩ := mv_step c0 e0 h0' h1'
          obtain ⟨p1, q1, r1, s1⟩ := mv_step c1 e1 h0' h1'
          obtain ⟨p2, q2, r2, s2⟩ := mv_step c2 e2 h0' h1'
          obtain ⟨p3, q3, r3, s3⟩ := mv_step c3 e3 h0' h1'
          rw [loop4 (s1 := ([mv p x0 y0, 0, 0, 0], 1)) (s2 := ([mv p x0 y0, mv p x1 y1, 0, 0], 2)) (s3 := ([mv p x0 y0, mv p x1 y1, mv p x2 y2, 0], 3)) (s4 := ([mv p x0 y0, mv p x1 y1, mv p x2 y2, mv p x3 y3], 4)) (r := [mv p x0 y0, mv p x1 y1, mv p x2 y2, mv p x3 y3])]
          · rfl
          · simp only [show List.replicate 4 (0 : Int) = [0, 0, 0, 0] from rfl, d04, gi0, i01, cond_true, Option.bind_some, p0, implDown_ok (show (0 : Int) < 1000 by omega) q0 r0, s0]; rfl
          · simp only [d14, gi1, i12, cond_true, Option.bind_some, p1, implDown_ok (show (0 : Int) < 1000 by omega) q1 r1, s1]; rfl
          · simp only [d24, gi2, i23, cond_true, Option.bind_some, p2, implDown_ok (show (0 : Int) < 1000 by omega) q2 r2, s2]; rfl
          · simp only [d34, gi3, i34, cond_true, Option.bind_some, p3, implDown_ok (show (0 : Int) < 1000 by omega) q3 r3, s3]; rfl
          · simp only [d44, cond_false]
    · have vb' : isVec b = false := by simpa using vb
      simp [vb', moveTo]
  · have va' : isVec a = false := by simpa using va
    simp [va', moveTo]
theorem specMove_ok {a b : List Int} (ha : a.length < 2000000) (hb : b.length < 2000000) (p : Int) : M.spec_MoveTo a b p = some (moveTo a b p) := by
  unfold M.spec_MoveTo
  simp only [spec_isVec a ha, Option.bind_some]
  by_cases va : isVec a = true
  · simp only [va, Bool.not_true, cond_false, spec_isVec b hb, Option.bind_some]
    by_cases vb : isVec b = true
    · simp only [vb, Bool.not_true, cond_false, spec_inR, Option.bind_some]
      by_cases hp : 0 ≤ p ∧ p ≤ 1000
      · obtain ⟨h0', h1'⟩ := hp
        simp only [decide_true, Bool.and_self, Bool.not_true, cond_false, moveTo, va, vb, h0', h1', and_self, if_true]
        obtain ⟨x0, x1, x2, x3, rfl, c0, c1, c2, c3⟩ := isVec_cut va
        obtain ⟨y0, y1, y2, y3, rfl, e0, e1, e2, e3⟩ := isVec_cut vb
        obtain ⟨p0, q0, r0, s0⟩ := mv_step c0 e0 h0' h1'
        obtain ⟨p1, q1, r1, s1⟩ := mv_step c1 e1 h0' h1'
        obtain ⟨p2, q2, r2, s2⟩ := mv_step c2 e2 h0' h1'
        obtain ⟨p3, q3, r3, s3⟩ := mv_step c3 e3 h0' h1'
        rw [loop4 (s1 := ([mv p x0 y0], 1)) (s2 := ([mv p x0 y0, mv p x1 y1], 2)) (s3 := ([mv p x0 y0, mv p x1 y1, mv p x2 y2], 3)) (s4 := ([mv p x0 y0, mv p x1 y1, mv p x2 y2, mv p x3 y3], 4)) (r := [mv p x0 y0, mv p x1 y1, mv p x2 y2, mv p x3 y3])]
        · rfl
        · simp only [d04, gi0, i01, cond_true, Option.bind_some, p0, specDown_ok (show (0 : Int) < 1000 by omega) q0 r0, s0]; rw [gapp_ok (by simp)]; rfl
        · simp only [d14, gi1, i12, cond_true, Option.bind_some, p1, specDown_ok (show (0 : Int) < 1000 by omega) q1 r1, s1]; rw [gapp_ok (by simp)]; rfl
        · simp only [d24, gi2, i23, cond_true, Option.bind_some, p2, specDown_ok (show (0 : Int) < 1000 by omega) q2 r2, s2]; rw [gapp_ok (by simp)]; rfl
        · simp only [d34, gi3, i34, cond_true, Option.bind_some, p3, specDown_ok (show (0 : Int) < 1000 by omega) q3 r3, s3]; rw [gapp_ok (by simp)]; rfl
        · simp only [d44, cond_false]
      · have e : (decide (0 ≤ p) && decide (p ≤ 1000)) = false := by simp; omega
        simp only [e, moveTo]
        rw [if_neg (fun h => hp h.2.2)]; rfl
    · have vb' : isVec b = false := by simpa using vb
      simp [vb', moveTo]
  · have va' : isVec a = false := by simpa using va
    simp [va', moveTo]

theorem moveTo_len {a b : List Int} {p : Int} : (moveTo a b p).length < 2000000 := by unfold moveTo; split <;> simp
end Go.Vs

namespace Go.Vs

end Go.Vs

namespace Go.Vs

end Go.Vs

namespace Go.Vs

theorem toIntS_ok {a : List Int} (h : a.length ≤ 1048576) : M.laws_toIntS a = some a := by
  unfold M.laws_toIntS
  rw [gmake_ok (by omega) (by omega)]
  simp only [Option.bind_some, Int.toNat_natCast]
  have hloop := loop_run (R := List Int) (f := fun (s10 : (List Int) × (Int)) => (bif decide (s10.2 < (a.length : Int)) then
  (gidx a s10.2).bind fun x18 =>
  (gidx s10.1 s10.2).bind fun x23 =>
  some (.inl ((s10.1.set s10.2.toNat x18), w64 (s10.2 + 1)))
 else
  some (.inr s10.1))) (r := a) a.length (fun i => (a.take i ++ List.replicate (a.length - i) 0, (i : Int))) (by
    intro i hi
    have e1 : decide ((i : Int) < (a.length : Int)) = true := by simpa using hi
    have e2 : w64 ((i : Int) + 1) = ((i + 1 : Nat) : Int) := w64_id (by omega) (by omega)
    have hl : i < (a.take i ++ List.replicate (a.length - i) (0 : Int)).length := by simp; omega
    simp only [e1, cond_true, gidx_nat hi, gidx_nat hl, Option.bind_some, e2, Int.toNat_natCast, Option.some.injEq, Sum.inl.injEq, Prod.mk.injEq, and_true]
    rw [List.take_succ_eq_append_getElem hi]
    have hr : List.replicate (a.length - i) (0 : Int) = 0 :: List.replicate (a.length - (i + 1)) 0 := by
      rw [show a.length - i = (a.length - (i + 1)) + 1 by omega, List.replicate_succ]
    rw [hr, List.set_append_right _ _ (by simp; omega)]
    have : i - (a.take i).length = 0 := by simp; omega
    rw [this]; simp only [List.set_cons_zero, List.append_assoc, List.cons_append, List.nil_append]) (by
    have e1 : decide (((a.length : Nat) : Int) < (a.length : Int)) = false := by simp
    simp only [e1, cond_false, List.take_length, Nat.sub_self, List.replicate_zero, List.append_nil])
  simp only [List.take_zero, List.nil_append, Nat.sub_zero, Int.cast_ofNat_Int] at hloop
  rw [hloop]; rfl
theorem eqIntS_ok {a b : List Int} (ha : a.length < 2000000) : M.laws_eqIntS a b = some (decide (a = b)) := equalInts_ok ha

end Go.Vs

namespace Go.Vs

end Go.Vs

namespace Go.Vs

abbrev Item := Int × (List Int) × Int
end Go.Vs

namespace Go.Vs

end Go.Vs

namespace Go.Vs

section
variable {α S T R U : Type} {xs : List α}
end

/-! ## Valid stores as lists that ascend -/
/-- A list of items that is small enough to be looked at. -/
def SmallS (l : List Item) : Prop := l.length ≤ 1048576 ∧ ∀ x ∈ l, x.2.1.length ≤ 1048576
theorem SmallS.hb {l : List Item} (h : SmallS l) : ∀ x ∈ l, x.2.1.length < 2000000 := fun x hx => by have := h.2 x hx; omega
/-! ## Putting -/
/-! ## Draws -/
/-- An item that may be drawn. -/
def NearI (x : Item) : Prop := (0 ≤ x.1 ∧ x.1 ≤ 100) ∧ Near x.2.1 ∧ -1 ≤ x.2.2 ∧ x.2.2 ≤ 16
end Go.Vs

namespace Go.Vs

end Go.Vs

namespace Go.Vs

section
variable {α S T R U : Type} {xs : List α}
end

end Go.Vs

namespace Go.Vs

/-! ## InBox -/
end Go.Vs

namespace Go.Vs

end Go.Vs

namespace Go.Vs

/-! ## What is drawn -/
theorem NearI.le {x : Item} (h : NearI x) : x.2.1.length ≤ 1048576 := by have := h.2.1.1; omega
section
variable {code : List UInt8}
end
end Go.Vs

namespace Go.Vs

end Go.Vs

namespace Go.Vs

/-- k, k + 1, .. -/
def upFrom (k : Int) (n : Nat) : List Int := (List.range n).map fun i : Nat => k + (i : Int)
theorem upFrom_len {k : Int} {n : Nat} : (upFrom k n).length = n := by simp [upFrom]
theorem upFrom_get {k : Int} {n i : Nat} (h : i < (upFrom k n).length) : (upFrom k n)[i] = k + (i : Int) := by simp [upFrom]
theorem markIntS_ok {a : List Int} {k : Int} (ha : a.length < 2000000) (h0 : 0 ≤ k) (h1 : k ≤ 2000000000000000) : M.laws_markIntS a k = some (k + (a.length : Int), upFrom k a.length) := by
  unfold M.laws_markIntS
  have hloop := loop_run (R := List Int × Int) (f := fun (s2 : (List Int) × (Int) × (Int)) => (bif decide (s2.2.2 < (s2.1.length : Int)) then
  (gidx s2.1 s2.2.2).bind fun x6 =>
  some (.inl ((s2.1.set s2.2.2.toNat s2.2.1), w64 (s2.2.1 + 1), w64 (s2.2.2 + 1)))
 else
  some (.inr (s2.1, s2.2.1)))) (r := (upFrom k a.length, k + (a.length : Int))) a.length (fun i => (upFrom k i ++ a.drop i, k + (i : Int), (i : Int))) (by
    intro i hi
    have hl : (upFrom k i ++ a.drop i).length = a.length := by rw [List.length_append, upFrom_len, List.length_drop]; omega
    have e1 : decide ((i : Int) < ((upFrom k i ++ a.drop i).length : Int)) = true := decide_eq_true (by omega)
    have e2 : w64 ((i : Int) + 1) = ((i + 1 : Nat) : Int) := w64_id (by omega) (by omega)
    have e3 : w64 (k + (i : Int) + 1) = k + ((i + 1 : Nat) : Int) := by rw [w64_id (by omega) (by omega)]; omega
    have hl' : i < (upFrom k i ++ a.drop i).length := by omega
    simp only [e1, cond_true, gidx_nat hl', Option.bind_some, e2, e3, Int.toNat_natCast, Option.some.injEq, Sum.inl.injEq, Prod.mk.injEq, and_true]
    rw [List.set_append_right _ _ (by rw [upFrom_len]; omega), upFrom_len, Nat.sub_self, List.drop_eq_getElem_cons hi, List.set_cons_zero]
    simp [upFrom, List.range_succ]) (by
    have e1 : decide (((a.length : Nat) : Int) < ((upFrom k a.length ++ a.drop a.length).length : Int)) = false := decide_eq_false (by rw [List.length_append, upFrom_len]; simp)
    simp only [List.drop_length, List.append_nil] at e1 ⊢
    simp only [e1, cond_false])
  simp only [upFrom, List.range_zero, List.map_nil, List.nil_append, List.drop_zero, Int.cast_ofNat_Int, Int.add_zero] at hloop
  rw [hloop]; rfl
theorem heldIntS_ok {n : Nat} {k : Int} (ha : n < 2000000) (h0 : 0 ≤ k) (h1 : k ≤ 2000000000000000) : M.laws_heldIntS (upFrom k n) k = some (k + (n : Int)) := by
  unfold M.laws_heldIntS
  have hloop := loop_run (R := Int ⊕ Int) (f := fun (s2 : (Int) × (Int)) => (bif decide (s2.2 < ((upFrom k n).length : Int)) then
  (gidx (upFrom k n) s2.2).bind fun x7 =>
  (bif x7 != s2.1 then
  some (.inr (.inr (-1)))
 else
  some (.inl (w64 (s2.1 + 1), w64 (s2.2 + 1))))
 else
  some (.inr (.inl s2.1)))) (r := .inl (k + (n : Int))) n (fun i => (k + (i : Int), (i : Int))) (by
    intro i hi
    have hl : i < (upFrom k n).length := by rw [upFrom_len]; exact hi
    have e1 : decide ((i : Int) < ((upFrom k n).length : Int)) = true := decide_eq_true (by omega)
    have e2 : w64 ((i : Int) + 1) = ((i + 1 : Nat) : Int) := w64_id (by omega) (by omega)
    have e3 : w64 (k + (i : Int) + 1) = k + ((i + 1 : Nat) : Int) := by rw [w64_id (by omega) (by omega)]; omega
    simp only [e1, cond_true, gidx_nat hl, upFrom_get, Option.bind_some, e2, e3, bne_self_eq_false, cond_false]) (by
    have e1 : decide ((n : Int) < ((upFrom k n).length : Int)) = false := decide_eq_false (by rw [upFrom_len]; omega)
    simp only [e1, cond_false])
  simp only [Int.cast_ofNat_Int, Int.add_zero] at hloop
  rw [hloop]; rfl
theorem law_ExactMoveTo (a b : List Int) (p : Int) : M.laws_FnExactMoveTo a b p = some true := by
  unfold M.laws_FnExactMoveTo
  by_cases hc : 1048576 < (a.length : Int)
  · simp [hc]
  by_cases hd : 1048576 < (b.length : Int)
  · simp [hc, hd]
  have la : a.length ≤ 1048576 := by omega
  have lb : b.length ≤ 1048576 := by omega
  have la' : a.length < 2000000 := by omega
  have lb' : b.length < 2000000 := by omega
  have lm : (moveTo a b p).length < 2000000 := moveTo_len
  have hn1 : ¬ (1 + (a.length : Int) + (b.length : Int)) < 0 := by omega
  have hn2 : ¬ (1 + ((moveTo a b p).length : Int)) < 0 := by omega
  simp only [hc, hd, decide_false, cond_false, toIntS_ok la, toIntS_ok lb, Option.bind_some, implMove_ok la' lb', specMove_ok la' lb', eqIntS_ok lm, eqIntS_ok la', eqIntS_ok lb', decide_true, Bool.not_true, markIntS_ok la' (show (0 : Int) ≤ 1 by omega) (show (1 : Int) ≤ 2000000000000000 by omega), markIntS_ok (k := 1 + (a.length : Int)) lb' (by omega) (by omega), hn1, markIntS_ok lm (show (0 : Int) ≤ 1 by omega) (show (1 : Int) ≤ 2000000000000000 by omega), heldIntS_ok lm (show (0 : Int) ≤ 1 by omega) (show (1 : Int) ≤ 2000000000000000 by omega), hn2, bne_self_eq_false]
end Go.Vs
