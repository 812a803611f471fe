/- Plain facts of what the functions compute. -/
import Derived.Test.YtbnhppnkdmnneaaExactMeanOfEng1
import Derived.Test.YtbnhppnkdmnneaaExactMeanOfLib1
set_option linter.unusedVariables false
set_option linter.unusedSimpArgs false
namespace Go.Vs

theorem loop_run {S R : Type} {f : S → Option (S ⊕ R)} {r : R} (k : Nat) (st : Nat → S) (hs : ∀ i, i < k → f (st i) = some (.inl (st (i + 1)))) (he : f (st k) = some (.inr r)) : loopM f (st 0) = some r := by
  induction k generalizing st with
  | zero => rw [loopM_eq, he]; rfl
  | succ k ih =>
    rw [loopM_eq, hs 0 (by omega)]
    exact ih (fun i => st (i + 1)) (fun i hi => hs (i + 1) (by omega)) he

theorem gidx_nat {α : Type} {xs : List α} {i : Nat} (h : i < xs.length) : gidx xs (i : Int) = some xs[i] := by
  unfold gidx
  rw [if_pos (by omega)]
  simp [h]
theorem gapp_ok {α : Type} {xs ys : List α} (h : xs.length + ys.length ≤ 2147483648) : gapp xs ys = some (xs ++ ys) := by unfold gapp; rw [if_pos h]
theorem grem_ok {a b : Int} (h : b ≠ 0) : grem a b = some (a.tmod b) := by unfold grem; rw [if_neg h]
theorem gquo_ok {a b : Int} (h : b ≠ 0) : gquo a b = some (w64 (a.tdiv b)) := by unfold gquo; rw [if_neg h]
theorem gmake_ok {α : Type} {k : Int} {z : α} (h0 : 0 ≤ k) (h1 : k ≤ 2147483648) : gmake k z = some (List.replicate k.toNat z) := by unfold gmake; rw [if_pos ⟨h0, h1⟩]
theorem tdiv_range {a b : Int} (ha : 0 ≤ a) (hb : 0 < b) : 0 ≤ a.tdiv b ∧ a.tdiv b ≤ a := by
  rw [Int.tdiv_eq_ediv_of_nonneg ha]
  exact ⟨Int.ediv_nonneg ha (by omega), Int.ediv_le_self _ ha⟩
/-- A loop that looks at each element, and leaves at the first that fails. -/
theorem loop_all {α R : Type} {xs : List α} {P : α → Bool} {r : R} {f : Int → Option (Int ⊕ (Unit ⊕ R))} (hs : ∀ i (h : i < xs.length), f (i : Int) = some (if P xs[i] then .inl ((i : Int) + 1) else .inr (.inr r))) (he : f (xs.length : Int) = some (.inr (.inl ()))) :
    loopM f 0 = some (if xs.all P then .inl () else .inr r) := by
  have key : ∀ m k : Nat, k + m = xs.length → loopM f (k : Int) = some (if (xs.drop k).all P then .inl () else .inr r) := by
    intro m
    induction m with
    | zero =>
      intro k hk
      have : k = xs.length := by omega
      subst this
      rw [loopM_eq, he]; simp [selim]
    | succ m ih =>
      intro k hk
      have hlt : k < xs.length := by omega
      rw [loopM_eq, hs k hlt, List.drop_eq_getElem_cons hlt]
      by_cases hp : P xs[k] = true
      · rw [if_pos hp]
        have := ih (k + 1) (by omega)
        simp only [Int.natCast_add, Int.cast_ofNat_Int] at this
        simp only [List.all_cons, hp, Bool.true_and, selim, this, Option.bind_some]
      · rw [if_neg hp]
        simp only [List.all_cons, Bool.not_eq_true] at hp ⊢
        simp only [hp, Bool.false_and, selim, Option.bind_some]; rfl
  have := key xs.length 0 (by omega)
  simpa using this
end Go.Vs

namespace Go.Vs

/-- A reader that has been asked at most k times. -/
def Good (k : Nat) (r : List UInt8 × Int) : Prop := r.1.length ≤ 2000 ∧ 0 ≤ r.2 ∧ r.2 ≤ k
theorem Good.mono {k m : Nat} {r : List UInt8 × Int} (h : Good k r) (hm : k ≤ m) : Good m r := ⟨h.1, h.2.1, by have := h.2.2; omega⟩

/-- A valid vector. -/
def isVec (v : List Int) : Bool := decide (v.length = 4) && v.all fun x => decide (-100 ≤ x) && decide (x ≤ 100)
theorem isVec_iff {v : List Int} : isVec v = true ↔ v.length = 4 ∧ ∀ x ∈ v, -100 ≤ x ∧ x ≤ 100 := by
  unfold isVec; simp
theorem isVec_four {v : List Int} (h : isVec v = true) : ∃ a b c d, v = [a, b, c, d] ∧ (-100 ≤ a ∧ a ≤ 100) ∧ (-100 ≤ b ∧ b ≤ 100) ∧ (-100 ≤ c ∧ c ≤ 100) ∧ (-100 ≤ d ∧ d ≤ 100) := by
  obtain ⟨h1, h2⟩ := isVec_iff.1 h
  match v, h1 with
  | [a, b, c, d], _ => exact ⟨a, b, c, d, rfl, h2 a (by simp), h2 b (by simp), h2 c (by simp), h2 d (by simp)⟩

end Go.Vs
namespace Go.Vs
/-- A vector that may be drawn. -/
def Near (v : List Int) : Prop := v.length ≤ 5 ∧ ∀ x ∈ v, -101 ≤ x ∧ x ≤ 101
theorem implCoords_ok (v : List Int) (hb : v.length < 2000000) : M.impl_validCoords v = some (v.all fun x => decide (-100 ≤ x) && decide (x ≤ 100)) := by
  unfold M.impl_validCoords
  rw [loop_all (xs := v) (P := fun x => decide (-100 ≤ x) && decide (x ≤ 100)) (r := false)]
  · by_cases ha : (v.all fun x => decide (-100 ≤ x) && decide (x ≤ 100)) = true
    · simp only [ha, if_true, Option.bind_some, selim]
    · simp only [Bool.not_eq_true] at ha
      simp only [ha]; simp [selim]
  · intro i h
    have e1 : decide ((i : Int) < (v.length : Int)) = true := by simpa using h
    have e2 : w64 ((i : Int) + 1) = (i : Int) + 1 := w64_id (by omega) (by omega)
    simp only [e1, cond_true, gidx_nat h, Option.bind_some, e2]
    by_cases c1 : v[i] < -100
    · have c2 : ¬ (-100 ≤ v[i]) := by omega
      simp [c1, c2]
    · by_cases c3 : 100 < v[i]
      · have c4 : ¬ (v[i] ≤ 100) := by omega
        simp [c1, c3, c4]
      · simp [c1, c3, show -100 ≤ v[i] by omega, show v[i] ≤ 100 by omega]
  · simp
theorem impl_valid (v : List Int) (hb : v.length < 2000000) : M.impl_ValidVector v = some (isVec v) := by
  unfold M.impl_ValidVector
  simp only [implCoords_ok v hb, Option.bind_some]
  unfold isVec
  by_cases hl : v.length = 4
  · have e : ((v.length : Int) == 4) = true := by simp; omega
    rw [e, cond_true, decide_eq_true hl, Bool.true_and]
  · have e : ((v.length : Int) == 4) = false := by simp; omega
    rw [e, cond_false, decide_eq_false hl, Bool.false_and]
theorem spec_inR (n l h : Int) : M.spec_inRange n l h = some (decide (l ≤ n) && decide (n ≤ h)) := by
  unfold M.spec_inRange
  by_cases h1 : l ≤ n <;> simp [h1]
theorem spec_all (v : List Int) (l h : Int) (hb : v.length < 2000000) : M.spec_allIn v l h = some (v.all fun x => decide (l ≤ x) && decide (x ≤ h)) := by
  unfold M.spec_allIn
  rw [loop_all (xs := v) (P := fun x => decide (l ≤ x) && decide (x ≤ h)) (r := false)]
  · by_cases ha : (v.all fun x => decide (l ≤ x) && decide (x ≤ h)) = true
    · simp only [ha, if_true, Option.bind_some, selim]
    · simp only [Bool.not_eq_true] at ha
      simp [ha, selim]
  · intro i hi
    have e1 : decide ((i : Int) < (v.length : Int)) = true := by simpa using hi
    have e2 : w64 ((i : Int) + 1) = (i : Int) + 1 := w64_id (by omega) (by omega)
    simp only [e1, cond_true, gidx_nat hi, Option.bind_some, e2, spec_inR]
    cases (decide (l ≤ v[i]) && decide (v[i] ≤ h)) <;> rfl
  · simp
theorem spec_isVec (v : List Int) (hb : v.length < 2000000) : M.spec_isVector v = some (isVec v) := by
  unfold M.spec_isVector
  by_cases hl : v.length = 4
  · have e : ((v.length : Int) == 4) = true := by simp; omega
    simp [e, spec_all v _ _ hb, isVec, hl]
  · have e : ((v.length : Int) == 4) = false := by simp; omega
    simp [e, isVec, hl]
end Go.Vs

namespace Go.Vs

end Go.Vs

namespace Go.Vs

theorem loop4 {S R : Type} {f : S → Option (S ⊕ R)} {s0 s1 s2 s3 s4 : S} {r : R} (h0 : f s0 = some (.inl s1)) (h1 : f s1 = some (.inl s2)) (h2 : f s2 = some (.inl s3)) (h3 : f s3 = some (.inl s4)) (h4 : f s4 = some (.inr r)) : loopM f s0 = some r := by
  rw [loopM_eq, h0, Option.bind_some, selim, loopM_eq, h1, Option.bind_some, selim, loopM_eq, h2, Option.bind_some, selim, loopM_eq, h3, Option.bind_some, selim, loopM_eq, h4]; rfl
theorem gi0 {α : Type} {a : α} {l : List α} : gidx (a :: l) 0 = some a := gidx_nat (i := 0) (by simp)
theorem gi1 {α : Type} {a b : α} {l : List α} : gidx (a :: b :: l) 1 = some b := gidx_nat (i := 1) (by simp)
theorem gi2 {α : Type} {a b c : α} {l : List α} : gidx (a :: b :: c :: l) 2 = some c := gidx_nat (i := 2) (by simp)
theorem gi3 {α : Type} {a b c d : α} {l : List α} : gidx (a :: b :: c :: d :: l) 3 = some d := gidx_nat (i := 3) (by simp)
theorem i01 : w64 ((0 : Int) + 1) = 1 := w64_id (by omega) (by omega)
theorem i12 : w64 ((1 : Int) + 1) = 2 := w64_id (by omega) (by omega)
theorem i23 : w64 ((2 : Int) + 1) = 3 := w64_id (by omega) (by omega)
theorem i34 : w64 ((3 : Int) + 1) = 4 := w64_id (by omega) (by omega)
theorem d04 : decide ((0 : Int) < 4) = true := rfl
theorem d14 : decide ((1 : Int) < 4) = true := rfl
theorem d24 : decide ((2 : Int) < 4) = true := rfl
theorem d34 : decide ((3 : Int) < 4) = true := rfl
theorem d44 : decide ((4 : Int) < 4) = false := rfl
theorem l4 {α : Type} {a b c d : α} : (([a, b, c, d] : List α).length : Int) = 4 := rfl

/-- A coordinate. -/
def Co (x : Int) : Prop := -100 ≤ x ∧ x ≤ 100
end Go.Vs

namespace Go.Vs

theorem isVec_cut {v : List Int} (h : isVec v = true) : ∃ a b c d, v = [a, b, c, d] ∧ Co a ∧ Co b ∧ Co c ∧ Co d := isVec_four h

theorem equalInts_ok {a b : List Int} (ha : a.length < 2000000) : M.laws_equalInts a b = some (decide (a = b)) := by
  unfold M.laws_equalInts
  by_cases hl : a.length = b.length
  · have e : ((a.length : Int) != (b.length : Int)) = false := by simp; omega
    simp only [e, cond_false]
    rw [loop_all (xs := a.zip b) (P := fun p => p.1 == p.2) (r := false)]
    · by_cases h : a = b
      · subst h
        have : (a.zip a).all (fun p => p.1 == p.2) = true := by
          rw [List.all_eq_true]; intro p hp
          obtain ⟨i, hi, rfl⟩ := List.mem_iff_getElem.1 hp
          simp
        rw [if_pos this]; simp [selim]
      · have : ¬ (a.zip b).all (fun p => p.1 == p.2) = true := by
          intro hh; apply h
          apply List.ext_getElem hl
          intro i h1 h2
          rw [List.all_eq_true] at hh
          have := hh (a[i], b[i]) (List.mem_iff_getElem.2 ⟨i, by simp; omega, by simp⟩)
          simpa using this
        rw [if_neg this]; simp [selim, h]
    · intro i hi
      have hi1 : i < a.length := by simp at hi; omega
      have hi2 : i < b.length := by simp at hi; omega
      have e1 : decide ((i : Int) < (a.length : Int)) = true := by simpa using hi1
      have e2 : w64 ((i : Int) + 1) = (i : Int) + 1 := w64_id (by omega) (by omega)
      simp only [e1, cond_true, gidx_nat hi1, gidx_nat hi2, Option.bind_some, e2, List.getElem_zip]
      by_cases hc : a[i] = b[i]
      · simp [hc]
      · have hb : (a[i] == b[i]) = false := by simpa using hc
        have hb' : (a[i] != b[i]) = true := by simpa using hc
        simp [hb, hb']
    · have : (a.zip b).length = a.length := by simp; omega
      rw [this]; simp
  · have e : ((a.length : Int) != (b.length : Int)) = true := by simp; omega
    have : a ≠ b := fun h => hl (by rw [h])
    simp [e, this]

/-- Gaps of two vectors. -/
structure Gaps (g0 g1 g2 g3 : Int) : Prop where
  n0 : 0 ≤ g0
  n1 : 0 ≤ g1
  n2 : 0 ≤ g2
  n3 : 0 ≤ g3
  m0 : g0 ≤ 200
  m1 : g1 ≤ 200
  m2 : g2 ≤ 200
  m3 : g3 ≤ 200
end Go.Vs

namespace Go.Vs

end Go.Vs

namespace Go.Vs

theorem down_eq {n m : Int} (hm : 0 < m) : (if n.tmod m < 0 then n.tdiv m - 1 else n.tdiv m) = n / m := by
  have e := Int.mul_tdiv_add_tmod n m
  have h1 : n.tmod m < m := Int.tmod_lt_of_pos n hm
  have h2 : -m < n.tmod m := by
    have := Int.lt_tmod_of_pos n hm
    omega
  by_cases c : n.tmod m < 0
  · rw [if_pos c]
    have : n = (n.tmod m + m) + (n.tdiv m - 1) * m := by
      rw [Int.sub_mul, Int.mul_comm (n.tdiv m) m]; omega
    conv => rhs; rw [this]
    rw [Int.add_mul_ediv_right _ _ (by omega), Int.ediv_eq_zero_of_lt (by omega) (by omega)]; omega
  · rw [if_neg c]
    have : n = n.tmod m + n.tdiv m * m := by
      rw [Int.mul_comm (n.tdiv m) m]; omega
    conv => rhs; rw [this]
    rw [Int.add_mul_ediv_right _ _ (by omega), Int.ediv_eq_zero_of_lt (by omega) (by omega)]; omega
theorem tdiv_abs {n m : Int} (hm : 0 < m) (h1 : -1000000000 ≤ n) (h2 : n ≤ 1000000000) : -1000000000 ≤ n.tdiv m ∧ n.tdiv m ≤ 1000000000 := by
  rcases Int.le_total 0 n with h | h
  · have := tdiv_range h hm; omega
  · have := tdiv_range (a := -n) (b := m) (by omega) hm
    rw [Int.neg_tdiv] at this; omega
theorem implDown_ok {n m : Int} (hm : 0 < m) (h1 : -1000000000 ≤ n) (h2 : n ≤ 1000000000) : M.impl_divideDown n m = some (n / m) := by
  have t := tdiv_abs hm h1 h2
  unfold M.impl_divideDown
  rw [gquo_ok (by omega), grem_ok (by omega), w64_id (by omega) (by omega)]
  simp only [Option.bind_some]
  rw [← down_eq hm]
  by_cases c : n.tmod m < 0
  · rw [if_pos c, w64_id (by omega) (by omega)]; simp [c]
  · rw [if_neg c]; simp [c]
theorem specDown_ok {n m : Int} (hm : 0 < m) (h1 : -1000000000 ≤ n) (h2 : n ≤ 1000000000) : M.spec_floorDiv n m = some (n / m) := implDown_ok hm h1 h2

end Go.Vs

namespace Go.Vs

theorem gidx_getD {v : List Int} {j : Nat} (h : j < v.length) : gidx v (j : Int) = some (v.getD j 0) := by
  rw [gidx_nat h]; simp [List.getD, h]
/-- The sum of a coordinate. -/
def sumAt (j : Nat) (l : List (List Int)) : Int := (l.map fun v => v.getD j 0).sum
theorem sumAt_next {j : Nat} {l : List (List Int)} {i : Nat} (h : i < l.length) : sumAt j (l.take (i + 1)) = sumAt j (l.take i) + l[i].getD j 0 := by
  unfold sumAt; rw [List.take_succ_eq_append_getElem h, List.map_append, List.sum_append]; simp
theorem sumAt_bounds {j : Nat} {l : List (List Int)} {a b : Int} (h : ∀ v ∈ l, a ≤ v.getD j 0 ∧ v.getD j 0 ≤ b) : a * l.length ≤ sumAt j l ∧ sumAt j l ≤ b * l.length := by
  induction l with
  | nil => simp [sumAt]
  | cons v l ih =>
    have h1 := h v (by simp)
    have h2 := ih (fun u hu => h u (by simp [hu]))
    have e : sumAt j (v :: l) = v.getD j 0 + sumAt j l := by simp [sumAt]
    rw [e]
    simp only [List.length_cons, Int.natCast_add, Int.cast_ofNat_Int, Int.mul_add, Int.mul_one]
    omega
theorem vec_co {v : List Int} (h : isVec v = true) {j : Nat} (hj : j < 4) : Co (v.getD j 0) := by
  obtain ⟨a, b, c, d, rfl, ha, hb, hc, hd⟩ := isVec_cut h
  match j, hj with
  | 0, _ => exact ha
  | 1, _ => exact hb
  | 2, _ => exact hc
  | 3, _ => exact hd
theorem sumAt_take {l : List (List Int)} {i : Nat} (h : ∀ v ∈ l.take i, isVec v = true) (hi : i ≤ 20) {j : Nat} (hj : j < 4) : -2000 ≤ sumAt j (l.take i) ∧ sumAt j (l.take i) ≤ 2000 := by
  have := sumAt_bounds (j := j) (l := l.take i) (a := -100) (b := 100) (fun v hv => vec_co (h v hv) hj)
  have hl : (l.take i).length ≤ 20 := by simp; omega
  omega

/-- What MeanOf answers. -/
def meanOf (l : List (List Int)) : List Int :=
  if (1 ≤ l.length ∧ l.length ≤ 16) ∧ l.all isVec = true then [sumAt 0 l / l.length, sumAt 1 l / l.length, sumAt 2 l / l.length, sumAt 3 l / l.length] else []

theorem validVecs_ok {l : List (List Int)} {m : Nat} (hm : m ≤ 1000000) (hb : ∀ v ∈ l, v.length < 2000000) : M.impl_validVectors l (m : Int) = some (decide (1 ≤ l.length) && decide (l.length ≤ m) && l.all isVec) := by
  unfold M.impl_validVectors
  by_cases h1 : 1 ≤ l.length
  · have e1 : decide ((l.length : Int) < 1) = false := decide_eq_false (by omega)
    by_cases h2 : l.length ≤ m
    · have e2 : decide ((m : Int) < (l.length : Int)) = false := decide_eq_false (by omega)
      simp only [e1, e2, cond_false, Option.bind_some, h1, h2, decide_true, Bool.true_and]
      rw [loop_all (xs := l) (P := isVec) (r := false)]
      · by_cases h : l.all isVec = true
        · rw [if_pos h, h]; rfl
        · rw [if_neg h]; simp only [Bool.not_eq_true] at h; rw [h]; rfl
      · intro i hi
        have e5 : decide ((i : Int) < (l.length : Int)) = true := decide_eq_true (by omega)
        have e6 : w64 ((i : Int) + 1) = (i : Int) + 1 := w64_id (by omega) (by omega)
        simp only [e5, cond_true, gidx_nat hi, Option.bind_some, impl_valid l[i] (hb _ (List.getElem_mem hi)), e6]
        cases isVec l[i] <;> simp
      · simp
    · have e2 : decide ((m : Int) < (l.length : Int)) = true := decide_eq_true (by omega)
      simp only [e1, e2, cond_false, cond_true, Option.bind_some, h2, decide_false, Bool.and_false, Bool.false_and]
  · have e1 : decide ((l.length : Int) < 1) = true := decide_eq_true (by omega)
    simp only [e1, cond_true, Option.bind_some, h1, decide_false, Bool.false_and]
theorem implMean_ok {l : List (List Int)} (hb : ∀ v ∈ l, v.length < 2000000) : M.impl_MeanOf l = some (meanOf l) := by
  unfold M.impl_MeanOf
  have hvv : M.impl_validVectors l 16 = _ := validVecs_ok (m := 16) (by omega) hb
  simp only [hvv, Option.bind_some]
  by_cases hr : 1 ≤ l.length ∧ l.length ≤ 16
  rotate_left
  · have : (decide (1 ≤ l.length) && decide (l.length ≤ 16)) = false := by
      by_cases q : 1 ≤ l.length
      · have : ¬ l.length ≤ 16 := fun h => hr ⟨q, h⟩
        simp [this]
      · simp [q]
    simp [this, meanOf, hr]
  cases hall : l.all isVec with
  | false => simp [meanOf, hall]
  | true =>
  simp only [hr.1, hr.2, decide_true, Bool.and_self, Bool.not_true, cond_false]
  have hv : ∀ v ∈ l, isVec v = true := by simpa using hall
  have hrun := loop_run (R := List Int) (r := [sumAt 0 l, sumAt 1 l, sumAt 2 l, sumAt 3 l]) (f := fun (s9 : (List Int) × (Int)) => (bif decide (s9.2 < (l.length : Int)) then
  (gidx l s9.2).bind fun x13 =>
  Option.bind (loopM (fun (s24 : (List Int) × (Int)) => (bif decide (s24.2 < (x13.length : Int)) then
  (gidx x13 s24.2).bind fun x28 =>
  (gidx s24.1 s24.2).bind fun x34 =>
  (gidx s24.1 s24.2).bind fun x38 =>
  some (.inl ((s24.1.set s24.2.toNat (w64 (x34 + x28))), w64 (s24.2 + 1)))
 else
  some (.inr s24.1))) (s9.1, 0)) fun o23 =>
  some (.inl (o23, w64 (s9.2 + 1)))
 else
  some (.inr s9.1))) l.length (fun i => ([sumAt 0 (l.take i), sumAt 1 (l.take i), sumAt 2 (l.take i), sumAt 3 (l.take i)], (i : Int))) ?_ ?_
  · have hz : (List.replicate 4 (0 : Int), (0 : Int)) = ([sumAt 0 (l.take 0), sumAt 1 (l.take 0), sumAt 2 (l.take 0), sumAt 3 (l.take 0)], ((0 : Nat) : Int)) := rfl
    rw [hz, hrun]
    simp only [Option.bind_some, meanOf, hr, hall, and_self, if_true]
    have hs : ∀ j, j < 4 → -2000 ≤ sumAt j l ∧ sumAt j l ≤ 2000 := by
      intro j hj
      have := sumAt_take (l := l) (i := l.length) (by simpa using hv) (by omega) hj
      simpa using this
    have s0 := hs 0 (by omega)
    have s1 := hs 1 (by omega)
    have s2 := hs 2 (by omega)
    have s3 := hs 3 (by omega)
    have hm : (0 : Int) < (l.length : Int) := by omega
    rw [loop4 (s1 := ([sumAt 0 l / l.length, sumAt 1 l, sumAt 2 l, sumAt 3 l], 1)) (s2 := ([sumAt 0 l / l.length, sumAt 1 l / l.length, sumAt 2 l, sumAt 3 l], 2)) (s3 := ([sumAt 0 l / l.length, sumAt 1 l / l.length, sumAt 2 l / l.length, sumAt 3 l], 3)) (s4 := ([sumAt 0 l / l.length, sumAt 1 l / l.length, sumAt 2 l / l.length, sumAt 3 l / l.length], 4)) (r := [sumAt 0 l / l.length, sumAt 1 l / l.length, sumAt 2 l / l.length, sumAt 3 l / l.length])]
    · rfl
    · simp only [d04, gi0, i01, cond_true, Option.bind_some, implDown_ok hm (show -1000000000 ≤ sumAt 0 l by omega) (by omega)]; rfl
    · simp only [d14, gi1, i12, cond_true, Option.bind_some, implDown_ok hm (show -1000000000 ≤ sumAt 1 l by omega) (by omega)]; rfl
    · simp only [d24, gi2, i23, cond_true, Option.bind_some, implDown_ok hm (show -1000000000 ≤ sumAt 2 l by omega) (by omega)]; rfl
    · simp only [d34, gi3, i34, cond_true, Option.bind_some, implDown_ok hm (show -1000000000 ≤ sumAt 3 l by omega) (by omega)]; rfl
    · simp only [d44, cond_false]
  · intro i hi
    have hpre : ∀ v ∈ l.take i, isVec v = true := fun v h => hv v (List.mem_of_mem_take h)
    have hp : isVec l[i] = true := hv _ (List.getElem_mem hi)
    have e1 : decide ((i : Int) < (l.length : Int)) = true := by simpa using hi
    have e2 : w64 ((i : Int) + 1) = ((i + 1 : Nat) : Int) := by rw [w64_id (by omega) (by omega)]; rfl
    simp only [e1, cond_true, gidx_nat hi, Option.bind_some, e2]
    rw [sumAt_next hi, sumAt_next hi, sumAt_next hi, sumAt_next hi]
    have s0 := sumAt_take hpre (by omega) (show 0 < 4 by omega)
    have s1 := sumAt_take hpre (by omega) (show 1 < 4 by omega)
    have s2 := sumAt_take hpre (by omega) (show 2 < 4 by omega)
    have s3 := sumAt_take hpre (by omega) (show 3 < 4 by omega)
    obtain ⟨a, b, c, d, he, ha, hb', hc, hd⟩ := isVec_cut hp
    rw [he]
    unfold Co at ha hb' hc hd
    generalize sumAt 0 (l.take i) = t0 at *
    generalize sumAt 1 (l.take i) = t1 at *
    generalize sumAt 2 (l.take i) = t2 at *
    generalize sumAt 3 (l.take i) = t3 at *
    have w0 : w64 (t0 + a) = t0 + a := w64_id (by omega) (by omega)
    have w1 : w64 (t1 + b) = t1 + b := w64_id (by omega) (by omega)
    have w2 : w64 (t2 + c) = t2 + c := w64_id (by omega) (by omega)
    have w3 : w64 (t3 + d) = t3 + d := w64_id (by omega) (by omega)
    rw [loop4 (s1 := ([t0 + a, t1, t2, t3], 1)) (s2 := ([t0 + a, t1 + b, t2, t3], 2)) (s3 := ([t0 + a, t1 + b, t2 + c, t3], 3)) (s4 := ([t0 + a, t1 + b, t2 + c, t3 + d], 4)) (r := [t0 + a, t1 + b, t2 + c, t3 + d])]
    · rfl
    · simp only [l4, d04, gi0, i01, cond_true, Option.bind_some, w0]; rfl
    · simp only [l4, d14, gi1, i12, cond_true, Option.bind_some, w1]; rfl
    · simp only [l4, d24, gi2, i23, cond_true, Option.bind_some, w2]; rfl
    · simp only [l4, d34, gi3, i34, cond_true, Option.bind_some, w3]; rfl
    · simp only [l4, d44, cond_false]
  · have e1 : decide ((l.length : Int) < (l.length : Int)) = false := by simp
    simp only [e1, cond_false, List.take_length]

theorem sumLoop_ok {l : List (List Int)} {j : Nat} (hj : j < 4) (hl : l.length ≤ 16) (hv : ∀ v ∈ l, isVec v = true) :
    loopM (fun (s16 : (Int) × (Int)) => (bif decide (s16.2 < (l.length : Int)) then
  (gidx l s16.2).bind fun x22 =>
  (gidx x22 (j : Int)).bind fun x32 =>
  some (.inl (w64 (s16.1 + x32), w64 (s16.2 + 1)))
 else
  some (.inr s16.1))) (0, 0) = some (sumAt j l) := by
  have := loop_run (f := fun (s16 : (Int) × (Int)) => (bif decide (s16.2 < (l.length : Int)) then
  (gidx l s16.2).bind fun x22 =>
  (gidx x22 (j : Int)).bind fun x32 =>
  some (.inl (w64 (s16.1 + x32), w64 (s16.2 + 1)))
 else
  some (.inr s16.1))) (r := sumAt j l) l.length (fun i => (sumAt j (l.take i), (i : Int))) (by
    intro i hi
    have e1 : decide ((i : Int) < (l.length : Int)) = true := by simpa using hi
    have e2 : w64 ((i : Int) + 1) = ((i + 1 : Nat) : Int) := w64_id (by omega) (by omega)
    have hx := hv _ (List.getElem_mem hi)
    have hlen := (isVec_iff.1 hx).1
    have hco := vec_co hx hj
    have s := sumAt_take (l := l) (i := i) (fun v h => hv v (List.mem_of_mem_take h)) (by omega) hj
    unfold Co at hco
    simp only [e1, cond_true, gidx_nat hi, Option.bind_some, e2, gidx_getD (show j < l[i].length by omega), sumAt_next hi]
    rw [w64_id (n := sumAt j (l.take i) + l[i].getD j 0) (by omega) (by omega)]) (by
    have e1 : decide (((l.length : Nat) : Int) < (l.length : Int)) = false := by simp
    simp only [e1, cond_false, List.take_length])
  exact this

theorem specMeanOf_ok {l : List (List Int)} (hb : ∀ v ∈ l, v.length < 2000000) (hL : l.length < 2000000) : M.spec_MeanOf l = some (meanOf l) := by
  unfold M.spec_MeanOf
  simp only [spec_inR, Option.bind_some]
  by_cases hr : 1 ≤ l.length ∧ l.length ≤ 16
  · have e : (decide (1 ≤ (l.length : Int)) && decide ((l.length : Int) ≤ 16)) = true := by simp; omega
    simp only [e, Bool.not_true, cond_false]
    rw [loop_all (xs := l) (P := isVec) (r := [])]
    · by_cases hall : l.all isVec = true
      · simp only [hall, if_true, Option.bind_some, selim, meanOf, hr, and_self]
        have hv : ∀ v ∈ l, isVec v = true := by simpa using hall
        have hs : ∀ j, j < 4 → -2000 ≤ sumAt j l ∧ sumAt j l ≤ 2000 := by
          intro j hj
          have := sumAt_take (l := l) (i := l.length) (by simpa using hv) (by omega) hj
          simpa using this
        have s0 := hs 0 (by omega)
        have s1 := hs 1 (by omega)
        have s2 := hs 2 (by omega)
        have s3 := hs 3 (by omega)
        have hm : (0 : Int) < (l.length : Int) := by omega
        have z0 := sumLoop_ok (j := 0) (by omega) hr.2 hv
        have z1 := sumLoop_ok (j := 1) (by omega) hr.2 hv
        have z2 := sumLoop_ok (j := 2) (by omega) hr.2 hv
        have z3 := sumLoop_ok (j := 3) (by omega) hr.2 hv
        simp only [Int.cast_ofNat_Int] at z0 z1 z2 z3
        unfold M.spec_mean
        rw [loop4 (s1 := ([sumAt 0 l / l.length], 1)) (s2 := ([sumAt 0 l / l.length, sumAt 1 l / l.length], 2)) (s3 := ([sumAt 0 l / l.length, sumAt 1 l / l.length, sumAt 2 l / l.length], 3)) (s4 := ([sumAt 0 l / l.length, sumAt 1 l / l.length, sumAt 2 l / l.length, sumAt 3 l / l.length], 4)) (r := [sumAt 0 l / l.length, sumAt 1 l / l.length, sumAt 2 l / l.length, sumAt 3 l / l.length])]
        · rfl
        · simp only [d04, cond_true]
          rw [z0]; simp only [i01, Option.bind_some, specDown_ok hm (show -1000000000 ≤ sumAt 0 l by omega) (by omega)]; rw [gapp_ok (by simp)]; rfl
        · simp only [d14, cond_true]
          rw [z1]; simp only [i12, Option.bind_some, specDown_ok hm (show -1000000000 ≤ sumAt 1 l by omega) (by omega)]; rw [gapp_ok (by simp)]; rfl
        · simp only [d24, cond_true]
          rw [z2]; simp only [i23, Option.bind_some, specDown_ok hm (show -1000000000 ≤ sumAt 2 l by omega) (by omega)]; rw [gapp_ok (by simp)]; rfl
        · simp only [d34, cond_true]
          rw [z3]; simp only [i34, Option.bind_some, specDown_ok hm (show -1000000000 ≤ sumAt 3 l by omega) (by omega)]; rw [gapp_ok (by simp)]; rfl
        · simp only [d44, cond_false]
      · rw [if_neg hall]
        unfold meanOf
        rw [if_neg (fun h => hall h.2)]; rfl
    · intro i hi
      have e1 : decide ((i : Int) < (l.length : Int)) = true := by simpa using hi
      have e2 : w64 ((i : Int) + 1) = (i : Int) + 1 := w64_id (by omega) (by omega)
      simp only [e1, cond_true, gidx_nat hi, Option.bind_some, e2, spec_isVec l[i] (hb _ (List.getElem_mem _))]
      cases isVec l[i] <;> rfl
    · simp
  · have e : (decide (1 ≤ (l.length : Int)) && decide ((l.length : Int) ≤ 16)) = false := by simp; omega
    simp [e, meanOf, hr]

theorem meanOf_len {l : List (List Int)} : (meanOf l).length < 2000000 := by unfold meanOf; split <;> simp

end Go.Vs

namespace Go.Vs

end Go.Vs

namespace Go.Vs

theorem toIntS_ok {a : List Int} (h : a.length ≤ 1048576) : M.laws_toIntS a = some a := by
  unfold M.laws_toIntS
  rw [gmake_ok (by omega) (by omega)]
  simp only [Option.bind_some, Int.toNat_natCast]
  have hloop := loop_run (R := List Int) (f := fun (s10 : (List Int) × (Int)) => (bif decide (s10.2 < (a.length : Int)) then
  (gidx a s10.2).bind fun x18 =>
  (gidx s10.1 s10.2).bind fun x23 =>
  some (.inl ((s10.1.set s10.2.toNat x18), w64 (s10.2 + 1)))
 else
  some (.inr s10.1))) (r := a) a.length (fun i => (a.take i ++ List.replicate (a.length - i) 0, (i : Int))) (by
    intro i hi
    have e1 : decide ((i : Int) < (a.length : Int)) = true := by simpa using hi
    have e2 : w64 ((i : Int) + 1) = ((i + 1 : Nat) : Int) := w64_id (by omega) (by omega)
    have hl : i < (a.take i ++ List.replicate (a.length - i) (0 : Int)).length := by simp; omega
    simp only [e1, cond_true, gidx_nat hi, gidx_nat hl, Option.bind_some, e2, Int.toNat_natCast, Option.some.injEq, Sum.inl.injEq, Prod.mk.injEq, and_true]
    rw [List.take_succ_eq_append_getElem hi]
    have hr : List.replicate (a.length - i) (0 : Int) = 0 :: List.replicate (a.length - (i + 1)) 0 := by
      rw [show a.length - i = (a.length - (i + 1)) + 1 by omega, List.replicate_succ]
    rw [hr, List.set_append_right _ _ (by simp; omega)]
    have : i - (a.take i).length = 0 := by simp; omega
    rw [this]; simp only [List.set_cons_zero, List.append_assoc, List.cons_append, List.nil_append]) (by
    have e1 : decide (((a.length : Nat) : Int) < (a.length : Int)) = false := by simp
    simp only [e1, cond_false, List.take_length, Nat.sub_self, List.replicate_zero, List.append_nil])
  simp only [List.take_zero, List.nil_append, Nat.sub_zero, Int.cast_ofNat_Int] at hloop
  rw [hloop]; rfl
theorem eqIntS_ok {a b : List Int} (ha : a.length < 2000000) : M.laws_eqIntS a b = some (decide (a = b)) := equalInts_ok ha

end Go.Vs

namespace Go.Vs

end Go.Vs

namespace Go.Vs

abbrev Item := Int × (List Int) × Int
end Go.Vs

namespace Go.Vs

theorem szIntS_ok {a : List Int} {left : Int} (ha : a.length ≤ 9223372036854775807) (h0 : 0 ≤ left) (h1 : left ≤ 1048576) :
    ∃ s, M.laws_szIntS a left = some s ∧ (s < 0 ∨ (0 ≤ s ∧ s ≤ left ∧ a.length ≤ 1048576)) := by
  unfold M.laws_szIntS
  rw [w64_id (by omega) (by omega)]
  by_cases h : left - (a.length : Int) < 0
  · exact ⟨-1, by simp [h], .inl (by omega)⟩
  · exact ⟨left - a.length, by simp [h], .inr (by omega)⟩
end Go.Vs

namespace Go.Vs

section
variable {α S T R U : Type} {xs : List α}
end

/-! ## Valid stores as lists that ascend -/
/-- A list of items that is small enough to be looked at. -/
def SmallS (l : List Item) : Prop := l.length ≤ 1048576 ∧ ∀ x ∈ l, x.2.1.length ≤ 1048576
theorem SmallS.hb {l : List Item} (h : SmallS l) : ∀ x ∈ l, x.2.1.length < 2000000 := fun x hx => by have := h.2 x hx; omega
theorem SmallS.hL {l : List Item} (h : SmallS l) : l.length < 2000000 := by have := h.1; omega
/-! ## Putting -/
/-! ## Draws -/
/-- An item that may be drawn. -/
def NearI (x : Item) : Prop := (0 ≤ x.1 ∧ x.1 ≤ 100) ∧ Near x.2.1 ∧ -1 ≤ x.2.2 ∧ x.2.2 ≤ 16
end Go.Vs

namespace Go.Vs

end Go.Vs

namespace Go.Vs

section
variable {α S T R U : Type} {xs : List α}
end

end Go.Vs

namespace Go.Vs

/-! ## InBox -/
end Go.Vs

namespace Go.Vs

end Go.Vs

namespace Go.Vs

/-! ## What is drawn -/
theorem NearI.le {x : Item} (h : NearI x) : x.2.1.length ≤ 1048576 := by have := h.2.1.1; omega
section
variable {code : List UInt8}
end
end Go.Vs

namespace Go.Vs

end Go.Vs

namespace Go.Vs

/-- k, k + 1, .. -/
def upFrom (k : Int) (n : Nat) : List Int := (List.range n).map fun i : Nat => k + (i : Int)
theorem upFrom_len {k : Int} {n : Nat} : (upFrom k n).length = n := by simp [upFrom]
theorem upFrom_get {k : Int} {n i : Nat} (h : i < (upFrom k n).length) : (upFrom k n)[i] = k + (i : Int) := by simp [upFrom]
theorem markIntS_ok {a : List Int} {k : Int} (ha : a.length < 2000000) (h0 : 0 ≤ k) (h1 : k ≤ 2000000000000000) : M.laws_markIntS a k = some (k + (a.length : Int), upFrom k a.length) := by
  unfold M.laws_markIntS
  have hloop := loop_run (R := List Int × Int) (f := fun (s2 : (List Int) × (Int) × (Int)) => (bif decide (s2.2.2 < (s2.1.length : Int)) then
  (gidx s2.1 s2.2.2).bind fun x6 =>
  some (.inl ((s2.1.set s2.2.2.toNat s2.2.1), w64 (s2.2.1 + 1), w64 (s2.2.2 + 1)))
 else
  some (.inr (s2.1, s2.2.1)))) (r := (upFrom k a.length, k + (a.length : Int))) a.length (fun i => (upFrom k i ++ a.drop i, k + (i : Int), (i : Int))) (by
    intro i hi
    have hl : (upFrom k i ++ a.drop i).length = a.length := by rw [List.length_append, upFrom_len, List.length_drop]; omega
    have e1 : decide ((i : Int) < ((upFrom k i ++ a.drop i).length : Int)) = true := decide_eq_true (by omega)
    have e2 : w64 ((i : Int) + 1) = ((i + 1 : Nat) : Int) := w64_id (by omega) (by omega)
    have e3 : w64 (k + (i : Int) + 1) = k + ((i + 1 : Nat) : Int) := by rw [w64_id (by omega) (by omega)]; omega
    have hl' : i < (upFrom k i ++ a.drop i).length := by omega
    simp only [e1, cond_true, gidx_nat hl', Option.bind_some, e2, e3, Int.toNat_natCast, Option.some.injEq, Sum.inl.injEq, Prod.mk.injEq, and_true]
    rw [List.set_append_right _ _ (by rw [upFrom_len]; omega), upFrom_len, Nat.sub_self, List.drop_eq_getElem_cons hi, List.set_cons_zero]
    simp [upFrom, List.range_succ]) (by
    have e1 : decide (((a.length : Nat) : Int) < ((upFrom k a.length ++ a.drop a.length).length : Int)) = false := decide_eq_false (by rw [List.length_append, upFrom_len]; simp)
    simp only [List.drop_length, List.append_nil] at e1 ⊢
    simp only [e1, cond_false])
  simp only [upFrom, List.range_zero, List.map_nil, List.nil_append, List.drop_zero, Int.cast_ofNat_Int, Int.add_zero] at hloop
  rw [hloop]; rfl
theorem heldIntS_ok {n : Nat} {k : Int} (ha : n < 2000000) (h0 : 0 ≤ k) (h1 : k ≤ 2000000000000000) : M.laws_heldIntS (upFrom k n) k = some (k + (n : Int)) := by
  unfold M.laws_heldIntS
  have hloop := loop_run (R := Int ⊕ Int) (f := fun (s2 : (Int) × (Int)) => (bif decide (s2.2 < ((upFrom k n).length : Int)) then
  (gidx (upFrom k n) s2.2).bind fun x7 =>
  (bif x7 != s2.1 then
  some (.inr (.inr (-1)))
 else
  some (.inl (w64 (s2.1 + 1), w64 (s2.2 + 1))))
 else
  some (.inr (.inl s2.1)))) (r := .inl (k + (n : Int))) n (fun i => (k + (i : Int), (i : Int))) (by
    intro i hi
    have hl : i < (upFrom k n).length := by rw [upFrom_len]; exact hi
    have e1 : decide ((i : Int) < ((upFrom k n).length : Int)) = true := decide_eq_true (by omega)
    have e2 : w64 ((i : Int) + 1) = ((i + 1 : Nat) : Int) := w64_id (by omega) (by omega)
    have e3 : w64 (k + (i : Int) + 1) = k + ((i + 1 : Nat) : Int) := by rw [w64_id (by omega) (by omega)]; omega
    simp only [e1, cond_true, gidx_nat hl, upFrom_get, Option.bind_some, e2, e3, bne_self_eq_false, cond_false]) (by
    have e1 : decide ((n : Int) < ((upFrom k n).length : Int)) = false := decide_eq_false (by rw [upFrom_len]; omega)
    simp only [e1, cond_false])
  simp only [Int.cast_ofNat_Int, Int.add_zero] at hloop
  rw [hloop]; rfl
end Go.Vs

namespace Go.Vs

theorem dIntSS_ok {a : List (List Int)} (h : a.length ≤ 1048576) (hx : ∀ x ∈ a, x.length ≤ 1048576) : M.dIntSS a = some a := by
  unfold M.dIntSS
  rw [if_pos ⟨by omega, fun x hx' => toIntS_ok (hx x hx')⟩]
theorem dmarkIntSS_ok : ∀ (a : List (List Int)) (k : Int), (∀ x ∈ a, x.length ≤ 1048576) → 0 ≤ k → k + a.length * 1048578 ≤ 1999999999999990 → ∃ r, M.dmarkIntSS a k = some r ∧ k ≤ r ∧ r ≤ k + a.length * 1048578
  | [], k, _, _, _ => ⟨k, rfl, Int.le_refl _, by simp⟩
  | x :: a, k, hx, h0, h1 => by
    have hl := hx x (by simp)
    have h2 : ((x :: a).length : Int) = a.length + 1 := by simp
    rw [h2] at h1
    have hm := markIntS_ok (a := x) (k := k) (by omega) (by omega) (by omega)
    obtain ⟨r, hr, g1, g2⟩ := dmarkIntSS_ok a (k + (x.length : Int)) (fun y hy => hx y (by simp [hy])) (by omega) (by omega)
    refine ⟨r, ?_, by omega, by rw [h2]; omega⟩
    simp only [M.dmarkIntSS, hm, Option.bind_some, hr]
theorem markIntSD_ok {a : List (List Int)} (h : a.length ≤ 1048576) (hx : ∀ x ∈ a, x.length ≤ 1048576) : ∃ r, M.markIntSD a 1 = some r ∧ 1 ≤ r ∧ r ≤ 1100000000000 := by
  obtain ⟨r, hr, h1, h2⟩ := dmarkIntSS_ok a 1 hx (by omega) (by omega)
  refine ⟨r, ?_, h1, by omega⟩
  unfold M.markIntSD
  rw [if_pos (by omega), hr]
theorem one0 : (0 : Int) ≤ 1 := by omega
theorem one1 : (1 : Int) ≤ 2000000000000000 := by omega

theorem szIntSS_ok {a : List (List Int)} {left : Int} (ha : a.length ≤ 9223372036854775807) (hx : ∀ x ∈ a, x.length ≤ 9223372036854775807) (h0 : 0 ≤ left) (h1 : left ≤ 1048576) :
    ∃ s, M.laws_szIntSS a left = some s ∧ (s < 0 ∨ (0 ≤ s ∧ a.length ≤ 1048576 ∧ ∀ x ∈ a, x.length ≤ 1048576)) := by
  unfold M.laws_szIntSS
  rw [w64_id (by omega) (by omega)]
  by_cases h : left - (a.length : Int) < 0
  · exact ⟨-1, by simp [h], .inl (by omega)⟩
  simp only [h, decide_false, cond_false]
  have hl : a.length ≤ 1048576 := by omega
  have key : ∀ m k : Nat, ∀ l : Int, k + m = a.length → 0 ≤ l → l ≤ 1048576 → ∃ r : Int ⊕ Int, loopM (fun (s3 : (Int) × (Int)) => (bif decide (s3.2 < (a.length : Int)) then
  (gidx a s3.2).bind fun x8 =>
  (M.laws_szIntS x8 s3.1).bind fun r18 =>
  (bif decide (r18 < 0) then
  some (.inr (.inr (-1)))
 else
  some (.inl (r18, w64 (s3.2 + 1))))
 else
  some (.inr (.inl s3.1)))) (l, (k : Int)) = some r ∧ (r = .inr (-1) ∨ ∃ l', r = .inl l' ∧ 0 ≤ l' ∧ ∀ x ∈ a.drop k, x.length ≤ 1048576) := by
    intro m
    induction m with
    | zero =>
      intro k l hk hl0 _
      have : k = a.length := by omega
      subst this
      refine ⟨.inl l, ?_, .inr ⟨l, rfl, hl0, by simp⟩⟩
      rw [loopM_eq]; simp [selim]
    | succ m ih =>
      intro k l hk hl0 hl1
      have hlt : k < a.length := by omega
      have e1 : decide ((k : Int) < (a.length : Int)) = true := by simpa using hlt
      have e2 : w64 ((k : Int) + 1) = ((k + 1 : Nat) : Int) := w64_id (by omega) (by omega)
      obtain ⟨s, es, hs⟩ := szIntS_ok (a := a[k]) (hx _ (List.getElem_mem hlt)) hl0 hl1
      rw [loopM_eq]
      simp only [e1, cond_true, gidx_nat hlt, Option.bind_some, es, e2]
      rcases hs with hs | ⟨hs0, hs1, hs2⟩
      · exact ⟨.inr (-1), by simp [hs, selim], .inl rfl⟩
      · obtain ⟨r, hr, hr'⟩ := ih (k + 1) s (by omega) hs0 (by omega)
        refine ⟨r, ?_, ?_⟩
        · have : ¬ s < 0 := by omega
          simp only [this, decide_false, cond_false, selim, Option.bind_some]
          exact hr
        · rcases hr' with hr' | ⟨l', e, h0', hall⟩
          · exact .inl hr'
          · refine .inr ⟨l', e, h0', ?_⟩
            rw [List.drop_eq_getElem_cons hlt]
            intro x hx'
            rcases List.mem_cons.1 hx' with h | h
            · subst h; exact hs2
            · exact hall x h
  obtain ⟨r, hr, hr'⟩ := key a.length 0 (left - a.length) (by omega) (by omega) (by omega)
  simp only [Int.cast_ofNat_Int] at hr
  rw [hr]
  rcases hr' with rfl | ⟨l', rfl, h0', hall⟩
  · exact ⟨-1, rfl, .inl (by omega)⟩
  · exact ⟨l', rfl, .inr ⟨h0', hl, by simpa using hall⟩⟩
theorem eqIntSS_self {a : List (List Int)} (h : a.length < 2000000) (hx : ∀ x ∈ a, x.length < 2000000) : M.laws_eqIntSS a a = some true := by
  unfold M.laws_eqIntSS
  simp only [bne_self_eq_false, cond_false]
  rw [loop_all (xs := a) (P := fun _ => true) (r := false)]
  · simp [selim]
  · intro i hi
    have e1 : decide ((i : Int) < (a.length : Int)) = true := by simpa using hi
    have e2 : w64 ((i : Int) + 1) = (i : Int) + 1 := w64_id (by omega) (by omega)
    simp only [e1, cond_true, gidx_nat hi, Option.bind_some, eqIntS_ok (hx _ (List.getElem_mem hi)), decide_true, Bool.not_true, cond_false, e2, if_true]
  · simp
theorem law_ExactMeanOf (l : List (List Int)) (ha : l.length ≤ 9223372036854775807 ∧ ∀ x ∈ l, (x.length ≤ 9223372036854775807 ∧ ∀ y ∈ x, True)) : M.laws_FnExactMeanOf l = some true := by
  unfold M.laws_FnExactMeanOf
  obtain ⟨s, es, hs⟩ := szIntSS_ok (left := 1048576) ha.1 (fun x hx => (ha.2 x hx).1) (by omega) (by omega)
  simp only [es, Option.bind_some]
  rcases hs with hs | ⟨h0, h1, h2⟩
  · simp [hs]
  have hn : ¬ s < 0 := by omega
  have hb : ∀ x ∈ l, x.length < 2000000 := fun x hx => by have := h2 x hx; omega
  have lm := meanOf_len (l := l)
  obtain ⟨k, hk, k1, k2⟩ := markIntSD_ok h1 h2
  have hn1 : ¬ k < 0 := by omega
  have hn2 : ¬ (1 + ((meanOf l).length : Int)) < 0 := by omega
  simp only [hn, decide_false, cond_false, dIntSS_ok h1 h2, Option.bind_some, implMean_ok hb, specMeanOf_ok hb (by omega), eqIntS_ok lm, eqIntSS_self (by omega) hb, decide_true, Bool.not_true, bne_self_eq_false, hk, hn1, markIntS_ok lm one0 one1, heldIntS_ok lm one0 one1, hn2]
end Go.Vs
