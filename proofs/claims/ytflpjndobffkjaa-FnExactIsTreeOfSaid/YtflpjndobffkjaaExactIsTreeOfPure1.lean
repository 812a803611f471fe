/- Plain facts of what the functions compute. -/
import Derived.Test.YtflpjndobffkjaaExactIsTreeOfEng1
import Derived.Test.YtflpjndobffkjaaExactIsTreeOfLib1
set_option linter.unusedVariables false
set_option linter.unusedSimpArgs false
namespace Go.Vs

theorem loop_run {S R : Type} {f : S → Option (S ⊕ R)} {r : R} (k : Nat) (st : Nat → S) (hs : ∀ i, i < k → f (st i) = some (.inl (st (i + 1)))) (he : f (st k) = some (.inr r)) : loopM f (st 0) = some r := by
  induction k generalizing st with
  | zero => rw [loopM_eq, he]; rfl
  | succ k ih =>
    rw [loopM_eq, hs 0 (by omega)]
    exact ih (fun i => st (i + 1)) (fun i hi => hs (i + 1) (by omega)) he

theorem gidx_nat {α : Type} {xs : List α} {i : Nat} (h : i < xs.length) : gidx xs (i : Int) = some xs[i] := by
  unfold gidx
  rw [if_pos (by omega)]
  simp [h]
theorem gapp_ok {α : Type} {xs ys : List α} (h : xs.length + ys.length ≤ 2147483648) : gapp xs ys = some (xs ++ ys) := by unfold gapp; rw [if_pos h]
theorem gslice_ok {α : Type} {xs : List α} {l h : Int} (h0 : 0 ≤ l) (h1 : l ≤ h) (h2 : h ≤ xs.length) : gslice xs l h = some ((xs.take h.toNat).drop l.toNat) := by
  unfold gslice; rw [if_pos ⟨h0, h1, h2⟩]
theorem gmake_ok {α : Type} {k : Int} {z : α} (h0 : 0 ≤ k) (h1 : k ≤ 2147483648) : gmake k z = some (List.replicate k.toNat z) := by unfold gmake; rw [if_pos ⟨h0, h1⟩]
theorem garr_ok {α : Type} {k : Nat} {xs : List α} (h : k ≤ xs.length) : garr k xs = some (xs.take k) := by unfold garr; rw [if_pos h]

theorem loop_all {α R : Type} {xs : List α} {P : α → Bool} {r : R} {f : Int → Option (Int ⊕ (Unit ⊕ R))} (hs : ∀ i (h : i < xs.length), f (i : Int) = some (if P xs[i] then .inl ((i : Int) + 1) else .inr (.inr r))) (he : f (xs.length : Int) = some (.inr (.inl ()))) :
    loopM f 0 = some (if xs.all P then .inl () else .inr r) := by
  have key : ∀ m k : Nat, k + m = xs.length → loopM f (k : Int) = some (if (xs.drop k).all P then .inl () else .inr r) := by
    intro m
    induction m with
    | zero =>
      intro k hk
      have : k = xs.length := by omega
      subst this
      rw [loopM_eq, he]; simp [selim]
    | succ m ih =>
      intro k hk
      have hlt : k < xs.length := by omega
      rw [loopM_eq, hs k hlt, List.drop_eq_getElem_cons hlt]
      by_cases hp : P xs[k] = true
      · rw [if_pos hp]
        have := ih (k + 1) (by omega)
        simp only [Int.natCast_add, Int.cast_ofNat_Int] at this
        simp only [List.all_cons, hp, Bool.true_and, selim, this, Option.bind_some]
      · rw [if_neg hp]
        simp only [List.all_cons, Bool.not_eq_true] at hp ⊢
        simp only [hp, Bool.false_and, selim, Option.bind_some]; rfl
  have := key xs.length 0 (by omega)
  simpa using this
end Go.Vs

namespace Go.Vs

def Good (k : Nat) (r : List UInt8 × Int) : Prop := r.1.length ≤ 2000 ∧ 0 ≤ r.2 ∧ r.2 ≤ k
theorem Good.mono {k m : Nat} {r : List UInt8 × Int} (h : Good k r) (hm : k ≤ m) : Good m r := ⟨h.1, h.2.1, by have := h.2.2; omega⟩

def isVec (v : List Int) : Bool := decide (v.length = 4) && v.all fun x => decide (-100 ≤ x) && decide (x ≤ 100)
theorem isVec_iff {v : List Int} : isVec v = true ↔ v.length = 4 ∧ ∀ x ∈ v, -100 ≤ x ∧ x ≤ 100 := by
  unfold isVec; simp
theorem isVec_four {v : List Int} (h : isVec v = true) : ∃ a b c d, v = [a, b, c, d] ∧ (-100 ≤ a ∧ a ≤ 100) ∧ (-100 ≤ b ∧ b ≤ 100) ∧ (-100 ≤ c ∧ c ≤ 100) ∧ (-100 ≤ d ∧ d ≤ 100) := by
  obtain ⟨h1, h2⟩ := isVec_iff.1 h
  match v, h1 with
  | [a, b, c, d], _ => exact ⟨a, b, c, d, rfl, h2 a (by simp), h2 b (by simp), h2 c (by simp), h2 d (by simp)⟩

end Go.Vs
namespace Go.Vs
def Near (v : List Int) : Prop := v.length ≤ 5 ∧ ∀ x ∈ v, -101 ≤ x ∧ x ≤ 101
theorem impl_valid (v : List Int) (hb : v.length < 2000000) : M.impl_ValidVector v = some (isVec v) := by
  unfold M.impl_ValidVector
  by_cases hl : v.length = 4
  · have e : ((v.length : Int) != 4) = false := by simp; omega
    rw [loop_all (xs := v) (P := fun x => decide (-100 ≤ x) && decide (x ≤ 100)) (r := false)]
    · simp only [e, cond_false]
      by_cases ha : (v.all fun x => decide (-100 ≤ x) && decide (x ≤ 100)) = true
      · simp only [ha, if_true, Option.bind_some, selim]; simp only [isVec, hl, ha]; rfl
      · simp only [Bool.not_eq_true] at ha
        simp only [ha]; simp [isVec, ha, selim]
    · intro i h
      have e1 : decide ((i : Int) < (v.length : Int)) = true := by simpa using h
      have e2 : w64 ((i : Int) + 1) = (i : Int) + 1 := w64_id (by omega) (by omega)
      simp only [e1, cond_true, gidx_nat h, Option.bind_some, e2]
      by_cases c1 : v[i] < -100
      · have c2 : ¬ (-100 ≤ v[i]) := by omega
        simp [c1, c2]
      · by_cases c3 : 100 < v[i]
        · have c4 : ¬ (v[i] ≤ 100) := by omega
          simp [c1, c3, c4]
        · simp [c1, c3, show -100 ≤ v[i] by omega, show v[i] ≤ 100 by omega]
    · simp
  · have e : ((v.length : Int) != 4) = true := by simp; omega
    have : isVec v = false := by
      rw [Bool.eq_false_iff]; intro h; exact hl (isVec_iff.1 h).1
    simp [e, this]
theorem spec_inR (n l h : Int) : M.spec_inRange n l h = some (decide (l ≤ n) && decide (n ≤ h)) := by
  unfold M.spec_inRange
  by_cases h1 : l ≤ n <;> simp [h1]
theorem spec_all (v : List Int) (l h : Int) (hb : v.length < 2000000) : M.spec_allIn v l h = some (v.all fun x => decide (l ≤ x) && decide (x ≤ h)) := by
  unfold M.spec_allIn
  rw [loop_all (xs := v) (P := fun x => decide (l ≤ x) && decide (x ≤ h)) (r := false)]
  · by_cases ha : (v.all fun x => decide (l ≤ x) && decide (x ≤ h)) = true
    · simp only [ha, if_true, Option.bind_some, selim]
    · simp only [Bool.not_eq_true] at ha
      simp [ha, selim]
  · intro i hi
    have e1 : decide ((i : Int) < (v.length : Int)) = true := by simpa using hi
    have e2 : w64 ((i : Int) + 1) = (i : Int) + 1 := w64_id (by omega) (by omega)
    simp only [e1, cond_true, gidx_nat hi, Option.bind_some, e2, spec_inR]
    cases (decide (l ≤ v[i]) && decide (v[i] ≤ h)) <;> rfl
  · simp
theorem spec_isVec (v : List Int) (hb : v.length < 2000000) : M.spec_isVector v = some (isVec v) := by
  unfold M.spec_isVector
  by_cases hl : v.length = 4
  · have e : ((v.length : Int) == 4) = true := by simp; omega
    simp [e, spec_all v _ _ hb, isVec, hl]
  · have e : ((v.length : Int) == 4) = false := by simp; omega
    simp [e, isVec, hl]
end Go.Vs

namespace Go.Vs

end Go.Vs

namespace Go.Vs

theorem loop4 {S R : Type} {f : S → Option (S ⊕ R)} {s0 s1 s2 s3 s4 : S} {r : R} (h0 : f s0 = some (.inl s1)) (h1 : f s1 = some (.inl s2)) (h2 : f s2 = some (.inl s3)) (h3 : f s3 = some (.inl s4)) (h4 : f s4 = some (.inr r)) : loopM f s0 = some r := by
  rw [loopM_eq, h0, Option.bind_some, selim, loopM_eq, h1, Option.bind_some, selim, loopM_eq, h2, Option.bind_some, selim, loopM_eq, h3, Option.bind_some, selim, loopM_eq, h4]; rfl
theorem gi0 {α : Type} {a : α} {l : List α} : gidx (a :: l) 0 = some a := gidx_nat (i := 0) (by simp)
theorem gi1 {α : Type} {a b : α} {l : List α} : gidx (a :: b :: l) 1 = some b := gidx_nat (i := 1) (by simp)
theorem gi2 {α : Type} {a b c : α} {l : List α} : gidx (a :: b :: c :: l) 2 = some c := gidx_nat (i := 2) (by simp)
theorem gi3 {α : Type} {a b c d : α} {l : List α} : gidx (a :: b :: c :: d :: l) 3 = some d := gidx_nat (i := 3) (by simp)
theorem i01 : w64 ((0 : Int) + 1) = 1 := w64_id (by omega) (by omega)
theorem i12 : w64 ((1 : Int) + 1) = 2 := w64_id (by omega) (by omega)
theorem i23 : w64 ((2 : Int) + 1) = 3 := w64_id (by omega) (by omega)
theorem i34 : w64 ((3 : Int) + 1) = 4 := w64_id (by omega) (by omega)
theorem d04 : decide ((0 : Int) < 4) = true := rfl
theorem d14 : decide ((1 : Int) < 4) = true := rfl
theorem d24 : decide ((2 : Int) < 4) = true := rfl
theorem d34 : decide ((3 : Int) < 4) = true := rfl
theorem d44 : decide ((4 : Int) < 4) = false := rfl
theorem l4 {α : Type} {a b c d : α} : (([a, b, c, d] : List α).length : Int) = 4 := rfl

def gap (x y : Int) : Int := max (x - y) (y - x)
theorem gap_comm (x y : Int) : gap x y = gap y x := by unfold gap; omega
theorem gap_nonneg (x y : Int) : 0 ≤ gap x y := by unfold gap; omega
def Co (x : Int) : Prop := -100 ≤ x ∧ x ≤ 100
theorem gap_le {x y : Int} (hx : Co x) (hy : Co y) : gap x y ≤ 200 := by unfold gap; unfold Co at hx hy; omega
theorem sq_bounds {g : Int} (h0 : 0 ≤ g) (h : g ≤ 200) : 0 ≤ g * g ∧ g ≤ g * g ∧ g * g ≤ 40000 := by
  refine ⟨Int.mul_nonneg h0 h0, ?_, ?_⟩
  · by_cases h1 : g = 0
    · subst h1; simp
    · have := Int.mul_le_mul_of_nonneg_right (show (1 : Int) ≤ g by omega) h0; omega
  · have := Int.mul_le_mul h h h0 (by omega); omega
def dk (k g0 g1 g2 g3 : Int) : Int :=
  if k = 1 then g0 + g1 + g2 + g3 else if k = 2 then max (max (max (max 0 g0) g1) g2) g3 else if k = 3 then g0 * g0 + g1 * g1 + g2 * g2 + g3 * g3 else if k = 4 then min g0 1 + min g1 1 + min g2 1 + min g3 1 else -1

theorem distanceOf_ok (k : Int) {g0 g1 g2 g3 : Int} (h0 : 0 ≤ g0) (h0' : g0 ≤ 200) (h1 : 0 ≤ g1) (h1' : g1 ≤ 200) (h2 : 0 ≤ g2) (h2' : g2 ≤ 200) (h3 : 0 ≤ g3) (h3' : g3 ≤ 200) :
    M.impl_distanceOf k [g0, g1, g2, g3] = some (dk k g0 g1 g2 g3) := by
  unfold M.impl_distanceOf
  have s0 := sq_bounds h0 h0'
  have s1 := sq_bounds h1 h1'
  have s2 := sq_bounds h2 h2'
  have s3 := sq_bounds h3 h3'
  by_cases k1 : k = 1
  · subst k1
    have e0 : w64 (0 + g0) = g0 := by rw [w64_id (by omega) (by omega)]; omega
    have e1 : w64 (g0 + g1) = g0 + g1 := w64_id (by omega) (by omega)
    have e2 : w64 (g0 + g1 + g2) = g0 + g1 + g2 := w64_id (by omega) (by omega)
    have e3 : w64 (g0 + g1 + g2 + g3) = g0 + g1 + g2 + g3 := w64_id (by omega) (by omega)
    rw [loop4 (s1 := (g0, 1)) (s2 := (g0 + g1, 2)) (s3 := (g0 + g1 + g2, 3)) (s4 := (g0 + g1 + g2 + g3, 4)) (r := .inl (g0 + g1 + g2 + g3))]
    · rfl
    · simp only [d04, gi0, i01, e0, selim, cond_true, Option.bind_some]; rfl
    · simp only [d14, gi1, i12, e1, selim, cond_true, Option.bind_some]; rfl
    · simp only [d24, gi2, i23, e2, selim, cond_true, Option.bind_some]; rfl
    · simp only [d34, gi3, i34, e3, selim, cond_true, Option.bind_some]; rfl
    · simp [d44]
  by_cases k2 : k = 2
  · subst k2
    rw [loop4 (s1 := (max 0 g0, 1)) (s2 := (max (max 0 g0) g1, 2)) (s3 := (max (max (max 0 g0) g1) g2, 3)) (s4 := (max (max (max (max 0 g0) g1) g2) g3, 4)) (r := .inl (max (max (max (max 0 g0) g1) g2) g3))]
    · rfl
    · simp only [d04, gi0, i01, selim, cond_true, Option.bind_some]; rfl
    · simp only [d14, gi1, i12, selim, cond_true, Option.bind_some]; rfl
    · simp only [d24, gi2, i23, selim, cond_true, Option.bind_some]; rfl
    · simp only [d34, gi3, i34, selim, cond_true, Option.bind_some]; rfl
    · simp [d44]
  by_cases k3 : k = 3
  · subst k3
    have q0 : w64 (g0 * g0) = g0 * g0 := w64_id (by omega) (by omega)
    have q1 : w64 (g1 * g1) = g1 * g1 := w64_id (by omega) (by omega)
    have q2 : w64 (g2 * g2) = g2 * g2 := w64_id (by omega) (by omega)
    have q3 : w64 (g3 * g3) = g3 * g3 := w64_id (by omega) (by omega)
    have e0 : w64 (0 + g0 * g0) = g0 * g0 := by rw [w64_id (by omega) (by omega)]; omega
    have e1 : w64 (g0 * g0 + g1 * g1) = g0 * g0 + g1 * g1 := w64_id (by omega) (by omega)
    have e2 : w64 (g0 * g0 + g1 * g1 + g2 * g2) = g0 * g0 + g1 * g1 + g2 * g2 := w64_id (by omega) (by omega)
    have e3 : w64 (g0 * g0 + g1 * g1 + g2 * g2 + g3 * g3) = g0 * g0 + g1 * g1 + g2 * g2 + g3 * g3 := w64_id (by omega) (by omega)
    rw [loop4 (s1 := (g0 * g0, 1)) (s2 := (g0 * g0 + g1 * g1, 2)) (s3 := (g0 * g0 + g1 * g1 + g2 * g2, 3)) (s4 := (g0 * g0 + g1 * g1 + g2 * g2 + g3 * g3, 4)) (r := .inl (g0 * g0 + g1 * g1 + g2 * g2 + g3 * g3))]
    · rfl
    · simp only [d04, gi0, i01, e0, q0, selim, cond_true, Option.bind_some]; rfl
    · simp only [d14, gi1, i12, e1, q1, selim, cond_true, Option.bind_some]; rfl
    · simp only [d24, gi2, i23, e2, q2, selim, cond_true, Option.bind_some]; rfl
    · simp only [d34, gi3, i34, e3, q3, selim, cond_true, Option.bind_some]; rfl
    · simp [d44]
  by_cases k4 : k = 4
  · subst k4
    have e0 : w64 (0 + min g0 1) = min g0 1 := by rw [w64_id (by omega) (by omega)]; omega
    have e1 : w64 (min g0 1 + min g1 1) = min g0 1 + min g1 1 := w64_id (by omega) (by omega)
    have e2 : w64 (min g0 1 + min g1 1 + min g2 1) = min g0 1 + min g1 1 + min g2 1 := w64_id (by omega) (by omega)
    have e3 : w64 (min g0 1 + min g1 1 + min g2 1 + min g3 1) = min g0 1 + min g1 1 + min g2 1 + min g3 1 := w64_id (by omega) (by omega)
    rw [loop4 (s1 := (min g0 1, 1)) (s2 := (min g0 1 + min g1 1, 2)) (s3 := (min g0 1 + min g1 1 + min g2 1, 3)) (s4 := (min g0 1 + min g1 1 + min g2 1 + min g3 1, 4)) (r := .inl (min g0 1 + min g1 1 + min g2 1 + min g3 1))]
    · rfl
    · simp only [d04, gi0, i01, e0, selim, cond_true, Option.bind_some]; rfl
    · simp only [d14, gi1, i12, e1, selim, cond_true, Option.bind_some]; rfl
    · simp only [d24, gi2, i23, e2, selim, cond_true, Option.bind_some]; rfl
    · simp only [d34, gi3, i34, e3, selim, cond_true, Option.bind_some]; rfl
    · simp [d44]
  have b1 : (k == 1) = false := by simpa using k1
  have b2 : (k == 2) = false := by simpa using k2
  have b3 : (k == 3) = false := by simpa using k3
  have b4 : (k == 4) = false := by simpa using k4
  rw [loopM_eq]
  simp [d04, gi0, b1, b2, b3, b4, selim, dk, k1, k2, k3, k4]

theorem gapsOf_ok {a b c d x y z w : Int} (ha : Co a) (hb : Co b) (hc : Co c) (hd : Co d) (hx : Co x) (hy : Co y) (hz : Co z) (hw : Co w) :
    M.impl_gapsOf [a, b, c, d] [x, y, z, w] = some [gap a x, gap b y, gap c z, gap d w] := by
  have e : ∀ p q, Co p → Co q → max (w64 (p - q)) (w64 (q - p)) = gap p q := by
    intro p q hp hq
    unfold Co at hp hq
    rw [w64_id (n := p - q) (by omega) (by omega), w64_id (n := q - p) (by omega) (by omega)]; rfl
  unfold M.impl_gapsOf
  rw [loop4 (s1 := ([gap a x, 0, 0, 0], 1)) (s2 := ([gap a x, gap b y, 0, 0], 2)) (s3 := ([gap a x, gap b y, gap c z, 0], 3)) (s4 := ([gap a x, gap b y, gap c z, gap d w], 4)) (r := [gap a x, gap b y, gap c z, gap d w])]
  · rfl
  · simp only [show List.replicate 4 (0 : Int) = [0, 0, 0, 0] from rfl, d04, gi0, i01, cond_true, Option.bind_some, e a x ha hx]; rfl
  · simp only [d14, gi1, i12, cond_true, Option.bind_some, e b y hb hy]; rfl
  · simp only [d24, gi2, i23, cond_true, Option.bind_some, e c z hc hz]; rfl
  · simp only [d34, gi3, i34, cond_true, Option.bind_some, e d w hd hw]; rfl
  · simp only [d44, cond_false]

theorem specDist_ok {k : Int} (hk : 1 ≤ k ∧ k ≤ 4) {a b c d x y z w : Int} (ha : Co a) (hb : Co b) (hc : Co c) (hd : Co d) (hx : Co x) (hy : Co y) (hz : Co z) (hw : Co w) :
    M.spec_dist k [a, b, c, d] [x, y, z, w] = some (dk k (gap a x) (gap b y) (gap c z) (gap d w)) := by
  have e : ∀ p q, Co p → Co q → M.spec_size (w64 (p - q)) = some (gap p q) := by
    intro p q hp hq
    unfold Co at hp hq
    unfold M.spec_size
    rw [w64_id (n := p - q) (by omega) (by omega), w64_id (n := 0 - (p - q)) (by omega) (by omega)]
    unfold gap
    congr 1; omega
  have t : ∀ g : Int, 0 ≤ g → M.spec_toInt (decide (0 < g)) = some (min g 1) := by
    intro g hg
    unfold M.spec_toInt
    by_cases h : 0 < g
    · simp [h]; omega
    · simp [h]; omega
  have ea := e a x ha hx
  have eb := e b y hb hy
  have ec := e c z hc hz
  have ed := e d w hd hw
  have h0 := gap_nonneg a x
  have h1 := gap_nonneg b y
  have h2 := gap_nonneg c z
  have h3 := gap_nonneg d w
  have h0' := gap_le ha hx
  have h1' := gap_le hb hy
  have h2' := gap_le hc hz
  have h3' := gap_le hd hw
  generalize gap a x = g0 at *
  generalize gap b y = g1 at *
  generalize gap c z = g2 at *
  generalize gap d w = g3 at *
  have s0 := sq_bounds h0 h0'
  have s1 := sq_bounds h1 h1'
  have s2 := sq_bounds h2 h2'
  have s3 := sq_bounds h3 h3'
  unfold M.spec_dist
  by_cases k1 : k = 1
  · subst k1
    have e0 : w64 (0 + g0) = g0 := by rw [w64_id (by omega) (by omega)]; omega
    have e1 : w64 (g0 + g1) = g0 + g1 := w64_id (by omega) (by omega)
    have e2 : w64 (g0 + g1 + g2) = g0 + g1 + g2 := w64_id (by omega) (by omega)
    have e3 : w64 (g0 + g1 + g2 + g3) = g0 + g1 + g2 + g3 := w64_id (by omega) (by omega)
    rw [loop4 (s1 := (g0, 1)) (s2 := (g0 + g1, 2)) (s3 := (g0 + g1 + g2, 3)) (s4 := (g0 + g1 + g2 + g3, 4)) (r := g0 + g1 + g2 + g3)]
    · rfl
    · simp only [l4, d04, gi0, i01, e0, ea, cond_true, Option.bind_some]; rfl
    · simp only [l4, d14, gi1, i12, e1, eb, cond_true, Option.bind_some]; rfl
    · simp only [l4, d24, gi2, i23, e2, ec, cond_true, Option.bind_some]; rfl
    · simp only [l4, d34, gi3, i34, e3, ed, cond_true, Option.bind_some]; rfl
    · simp [l4, d44]
  by_cases k2 : k = 2
  · subst k2
    rw [loop4 (s1 := (max 0 g0, 1)) (s2 := (max (max 0 g0) g1, 2)) (s3 := (max (max (max 0 g0) g1) g2, 3)) (s4 := (max (max (max (max 0 g0) g1) g2) g3, 4)) (r := max (max (max (max 0 g0) g1) g2) g3)]
    · rfl
    · simp only [l4, d04, gi0, i01, ea, cond_true, Option.bind_some]; rfl
    · simp only [l4, d14, gi1, i12, eb, cond_true, Option.bind_some]; rfl
    · simp only [l4, d24, gi2, i23, ec, cond_true, Option.bind_some]; rfl
    · simp only [l4, d34, gi3, i34, ed, cond_true, Option.bind_some]; rfl
    · simp [l4, d44]
  by_cases k3 : k = 3
  · subst k3
    have q0 : w64 (g0 * g0) = g0 * g0 := w64_id (by omega) (by omega)
    have q1 : w64 (g1 * g1) = g1 * g1 := w64_id (by omega) (by omega)
    have q2 : w64 (g2 * g2) = g2 * g2 := w64_id (by omega) (by omega)
    have q3 : w64 (g3 * g3) = g3 * g3 := w64_id (by omega) (by omega)
    have e0 : w64 (0 + g0 * g0) = g0 * g0 := by rw [w64_id (by omega) (by omega)]; omega
    have e1 : w64 (g0 * g0 + g1 * g1) = g0 * g0 + g1 * g1 := w64_id (by omega) (by omega)
    have e2 : w64 (g0 * g0 + g1 * g1 + g2 * g2) = g0 * g0 + g1 * g1 + g2 * g2 := w64_id (by omega) (by omega)
    have e3 : w64 (g0 * g0 + g1 * g1 + g2 * g2 + g3 * g3) = g0 * g0 + g1 * g1 + g2 * g2 + g3 * g3 := w64_id (by omega) (by omega)
    rw [loop4 (s1 := (g0 * g0, 1)) (s2 := (g0 * g0 + g1 * g1, 2)) (s3 := (g0 * g0 + g1 * g1 + g2 * g2, 3)) (s4 := (g0 * g0 + g1 * g1 + g2 * g2 + g3 * g3, 4)) (r := g0 * g0 + g1 * g1 + g2 * g2 + g3 * g3)]
    · rfl
    · simp only [l4, d04, gi0, i01, e0, q0, ea, cond_true, Option.bind_some]; rfl
    · simp only [l4, d14, gi1, i12, e1, q1, eb, cond_true, Option.bind_some]; rfl
    · simp only [l4, d24, gi2, i23, e2, q2, ec, cond_true, Option.bind_some]; rfl
    · simp only [l4, d34, gi3, i34, e3, q3, ed, cond_true, Option.bind_some]; rfl
    · simp [l4, d44]
  · have k4 : k = 4 := by omega
    subst k4
    have e0 : w64 (0 + min g0 1) = min g0 1 := by rw [w64_id (by omega) (by omega)]; omega
    have e1 : w64 (min g0 1 + min g1 1) = min g0 1 + min g1 1 := w64_id (by omega) (by omega)
    have e2 : w64 (min g0 1 + min g1 1 + min g2 1) = min g0 1 + min g1 1 + min g2 1 := w64_id (by omega) (by omega)
    have e3 : w64 (min g0 1 + min g1 1 + min g2 1 + min g3 1) = min g0 1 + min g1 1 + min g2 1 + min g3 1 := w64_id (by omega) (by omega)
    rw [loop4 (s1 := (min g0 1, 1)) (s2 := (min g0 1 + min g1 1, 2)) (s3 := (min g0 1 + min g1 1 + min g2 1, 3)) (s4 := (min g0 1 + min g1 1 + min g2 1 + min g3 1, 4)) (r := min g0 1 + min g1 1 + min g2 1 + min g3 1)]
    · rfl
    · simp only [l4, d04, gi0, i01, e0, ea, t g0 h0, cond_true, Option.bind_some]; simp only [show ((4 : Int) == 1) = false from rfl, show ((4 : Int) == 2) = false from rfl, show ((4 : Int) == 3) = false from rfl, cond_false, Option.bind_some, t g0 h0, e0]
    · simp only [l4, d14, gi1, i12, e1, eb, t g1 h1, cond_true, Option.bind_some]; simp only [show ((4 : Int) == 1) = false from rfl, show ((4 : Int) == 2) = false from rfl, show ((4 : Int) == 3) = false from rfl, cond_false, Option.bind_some, t g1 h1, e1]
    · simp only [l4, d24, gi2, i23, e2, ec, t g2 h2, cond_true, Option.bind_some]; simp only [show ((4 : Int) == 1) = false from rfl, show ((4 : Int) == 2) = false from rfl, show ((4 : Int) == 3) = false from rfl, cond_false, Option.bind_some, t g2 h2, e2]
    · simp only [l4, d34, gi3, i34, e3, ed, t g3 h3, cond_true, Option.bind_some]; simp only [show ((4 : Int) == 1) = false from rfl, show ((4 : Int) == 2) = false from rfl, show ((4 : Int) == 3) = false from rfl, cond_false, Option.bind_some, t g3 h3, e3]
    · simp [l4, d44]
end Go.Vs

namespace Go.Vs

def dist (k : Int) (a b : List Int) : Int :=
  if isVec a = true ∧ isVec b = true then dk k (gap (a.getD 0 0) (b.getD 0 0)) (gap (a.getD 1 0) (b.getD 1 0)) (gap (a.getD 2 0) (b.getD 2 0)) (gap (a.getD 3 0) (b.getD 3 0)) else -1
theorem dist_vec {k : Int} {a b c d x y z w : Int} (ha : isVec [a, b, c, d] = true) (hb : isVec [x, y, z, w] = true) : dist k [a, b, c, d] [x, y, z, w] = dk k (gap a x) (gap b y) (gap c z) (gap d w) := by
  unfold dist; rw [if_pos ⟨ha, hb⟩]; rfl
theorem isVec_cut {v : List Int} (h : isVec v = true) : ∃ a b c d, v = [a, b, c, d] ∧ Co a ∧ Co b ∧ Co c ∧ Co d := isVec_four h

theorem implDistance_ok (k : Int) {a b : List Int} (ha : a.length < 2000000) (hb : b.length < 2000000) : M.impl_Distance k a b = some (dist k a b) := by
  unfold M.impl_Distance
  simp only [impl_valid a ha, Option.bind_some]
  by_cases va : isVec a = true
  · simp only [va, Bool.not_true, cond_false, impl_valid b hb, Option.bind_some]
    by_cases vb : isVec b = true
    · simp only [vb, Bool.not_true, cond_false]
      obtain ⟨x0, x1, x2, x3, rfl, c0, c1, c2, c3⟩ := isVec_cut va
      obtain ⟨y0, y1, y2, y3, rfl, e0, e1, e2, e3⟩ := isVec_cut vb
      rw [dist_vec va vb, garr_ok (by simp), garr_ok (by simp)]
      simp only [Option.bind_some, List.take_succ_cons, List.take_zero, gapsOf_ok c0 c1 c2 c3 e0 e1 e2 e3]
      rw [distanceOf_ok k (gap_nonneg _ _) (gap_le c0 e0) (gap_nonneg _ _) (gap_le c1 e1) (gap_nonneg _ _) (gap_le c2 e2) (gap_nonneg _ _) (gap_le c3 e3)]
      rfl
    · have vb' : isVec b = false := by simpa using vb
      simp [vb', dist]
  · have va' : isVec a = false := by simpa using va
    simp [va', dist]
theorem equalInts_ok {a b : List Int} (ha : a.length < 2000000) : M.laws_equalInts a b = some (decide (a = b)) := by
  unfold M.laws_equalInts
  by_cases hl : a.length = b.length
  · have e : ((a.length : Int) != (b.length : Int)) = false := by simp; omega
    simp only [e, cond_false]
    rw [loop_all (xs := a.zip b) (P := fun p => p.1 == p.2) (r := false)]
    · by_cases h : a = b
      · subst h
        have : (a.zip a).all (fun p => p.1 == p.2) = true := by
          rw [List.all_eq_true]; intro p hp
          obtain ⟨i, hi, rfl⟩ := List.mem_iff_getElem.1 hp
          simp
        rw [if_pos this]; simp [selim]
      · have : ¬ (a.zip b).all (fun p => p.1 == p.2) = true := by
          intro hh; apply h
          apply List.ext_getElem hl
          intro i h1 h2
          rw [List.all_eq_true] at hh
          have := hh (a[i], b[i]) (List.mem_iff_getElem.2 ⟨i, by simp; omega, by simp⟩)
          simpa using this
        rw [if_neg this]; simp [selim, h]
    · intro i hi
      have hi1 : i < a.length := by simp at hi; omega
      have hi2 : i < b.length := by simp at hi; omega
      have e1 : decide ((i : Int) < (a.length : Int)) = true := by simpa using hi1
      have e2 : w64 ((i : Int) + 1) = (i : Int) + 1 := w64_id (by omega) (by omega)
      simp only [e1, cond_true, gidx_nat hi1, gidx_nat hi2, Option.bind_some, e2, List.getElem_zip]
      by_cases hc : a[i] = b[i]
      · simp [hc]
      · have hb : (a[i] == b[i]) = false := by simpa using hc
        have hb' : (a[i] != b[i]) = true := by simpa using hc
        simp [hb, hb']
    · have : (a.zip b).length = a.length := by simp; omega
      rw [this]; simp
  · have e : ((a.length : Int) != (b.length : Int)) = true := by simp; omega
    have : a ≠ b := fun h => hl (by rw [h])
    simp [e, this]

theorem dist_comm (k : Int) (a b : List Int) : dist k a b = dist k b a := by
  unfold dist
  by_cases h : isVec a = true ∧ isVec b = true
  · rw [if_pos h, if_pos h.symm, gap_comm (a.getD 0 0), gap_comm (a.getD 1 0), gap_comm (a.getD 2 0), gap_comm (a.getD 3 0)]
  · rw [if_neg h, if_neg (fun c => h c.symm)]

structure Gaps (g0 g1 g2 g3 : Int) : Prop where
  n0 : 0 ≤ g0
  n1 : 0 ≤ g1
  n2 : 0 ≤ g2
  n3 : 0 ≤ g3
  m0 : g0 ≤ 200
  m1 : g1 ≤ 200
  m2 : g2 ≤ 200
  m3 : g3 ≤ 200
end Go.Vs

namespace Go.Vs

end Go.Vs

namespace Go.Vs

end Go.Vs

namespace Go.Vs

end Go.Vs

namespace Go.Vs

end Go.Vs

namespace Go.Vs

theorem toIntS_ok {a : List Int} (h : a.length ≤ 1048576) : M.laws_toIntS a = some a := by
  unfold M.laws_toIntS
  rw [gmake_ok (by omega) (by omega)]
  simp only [Option.bind_some, Int.toNat_natCast]
  have hloop := loop_run (R := List Int) (f := fun (s10 : (List Int) × (Int)) => (bif decide (s10.2 < (a.length : Int)) then
  (gidx a s10.2).bind fun x18 =>
  (gidx s10.1 s10.2).bind fun x23 =>
  some (.inl ((s10.1.set s10.2.toNat x18), w64 (s10.2 + 1)))
 else
  some (.inr s10.1))) (r := a) a.length (fun i => (a.take i ++ List.replicate (a.length - i) 0, (i : Int))) (by
    intro i hi
    have e1 : decide ((i : Int) < (a.length : Int)) = true := by simpa using hi
    have e2 : w64 ((i : Int) + 1) = ((i + 1 : Nat) : Int) := w64_id (by omega) (by omega)
    have hl : i < (a.take i ++ List.replicate (a.length - i) (0 : Int)).length := by simp; omega
    simp only [e1, cond_true, gidx_nat hi, gidx_nat hl, Option.bind_some, e2, Int.toNat_natCast, Option.some.injEq, Sum.inl.injEq, Prod.mk.injEq, and_true]
    rw [List.take_succ_eq_append_getElem hi]
    have hr : List.replicate (a.length - i) (0 : Int) = 0 :: List.replicate (a.length - (i + 1)) 0 := by
      rw [show a.length - i = (a.length - (i + 1)) + 1 by omega, List.replicate_succ]
    rw [hr, List.set_append_right _ _ (by simp; omega)]
    have : i - (a.take i).length = 0 := by simp; omega
    rw [this]; simp only [List.set_cons_zero, List.append_assoc, List.cons_append, List.nil_append]) (by
    have e1 : decide (((a.length : Nat) : Int) < (a.length : Int)) = false := by simp
    simp only [e1, cond_false, List.take_length, Nat.sub_self, List.replicate_zero, List.append_nil])
  simp only [List.take_zero, List.nil_append, Nat.sub_zero, Int.cast_ofNat_Int] at hloop
  rw [hloop]; rfl
theorem eqIntS_ok {a b : List Int} (ha : a.length < 2000000) : M.laws_eqIntS a b = some (decide (a = b)) := equalInts_ok ha

end Go.Vs

namespace Go.Vs

end Go.Vs

namespace Go.Vs

abbrev Item := Int × (List Int) × Int
def isItem (x : Item) : Bool := (decide (1 ≤ x.1) && decide (x.1 ≤ 99)) && (isVec x.2.1 && (decide (0 ≤ x.2.2) && decide (x.2.2 ≤ 15)))
def okFrom : Int → List Item → Bool
  | _, [] => true
  | p, x :: l => (isItem x && decide (p < x.1)) && okFrom x.1 l
def okStore (l : List Item) : Bool := decide (l.length ≤ 16) && okFrom 0 l

theorem implItem_ok {x : Item} (h : x.2.1.length < 2000000) : M.impl_validItem (x.1, x.2.1, x.2.2) = some (isItem x) := by
  unfold M.impl_validItem M.impl_validKey isItem
  simp only [impl_valid x.2.1 h, Option.bind_some]
  by_cases h1 : 1 ≤ x.1
  · by_cases h2 : x.1 ≤ 99
    · by_cases h3 : isVec x.2.1 = true
      · by_cases h4 : 0 ≤ x.2.2
        · simp [h1, h2, h3, h4]
        · simp [h1, h2, h3, h4]
      · simp only [Bool.not_eq_true] at h3
        simp [h1, h2, h3]
    · simp [h1, h2]
  · simp [h1]
theorem specItem_ok {x : Item} (h : x.2.1.length < 2000000) : M.spec_validItem (x.1, x.2.1, x.2.2) = some (isItem x) := by
  unfold M.spec_validItem isItem
  simp only [spec_inR, spec_isVec x.2.1 h, Option.bind_some]
  cases (decide (1 ≤ x.1) && decide (x.1 ≤ 99)) <;> cases isVec x.2.1 <;> simp

theorem implStore_ok {l : List Item} (hb : ∀ x ∈ l, x.2.1.length < 2000000) : M.impl_ValidStore l = some (okStore l) := by
  unfold M.impl_ValidStore okStore
  by_cases hl : 16 < (l.length : Int)
  · have : ¬ l.length ≤ 16 := by omega
    simp [hl, this]
  have hl' : l.length ≤ 16 := by omega
  simp only [hl, decide_false, cond_false, hl', decide_true, Bool.true_and]
  have key : ∀ m k : Nat, ∀ p : Int, k + m = l.length → loopM (fun (s3 : (Int) × (Int)) => (bif decide (s3.2 < (l.length : Int)) then
  (gidx l s3.2).bind fun x8 =>
  Option.bind ((M.impl_validItem (x8.1, x8.2.1, x8.2.2)).bind fun r30 =>
  (bif !r30 then
  some true
 else
  some (decide (x8.1 ≤ s3.1)))) fun o29 =>
  (bif o29 then
  some (.inr (.inr false))
 else
  some (.inl (x8.1, w64 (s3.2 + 1))))
 else
  some (.inr (.inl ())))) (p, (k : Int)) = some (if okFrom p (l.drop k) then (.inl () : Unit ⊕ Bool) else .inr false) := by
    intro m
    induction m with
    | zero =>
      intro k p hk
      have : k = l.length := by omega
      subst this
      rw [loopM_eq]; simp [selim, okFrom]
    | succ m ih =>
      intro k p hk
      have hlt : k < l.length := by omega
      rw [loopM_eq, List.drop_eq_getElem_cons hlt]
      have e1 : decide ((k : Int) < (l.length : Int)) = true := by simpa using hlt
      have e2 : w64 ((k : Int) + 1) = ((k + 1 : Nat) : Int) := w64_id (by omega) (by omega)
      simp only [e1, cond_true, gidx_nat hlt, Option.bind_some, implItem_ok (hb _ (List.getElem_mem hlt)), e2, okFrom]
      by_cases h1 : isItem l[k] = true
      · by_cases h2 : p < l[k].1
        · have h2' : ¬ l[k].1 ≤ p := by omega
          simp only [h1, h2, h2', Bool.not_true, cond_false, Option.bind_some, decide_false, decide_true, Bool.and_self, Bool.true_and, selim]
          exact ih (k + 1) l[k].1 (by omega)
        · have h2' : l[k].1 ≤ p := by omega
          simp [h1, h2, h2', selim]
      · simp only [Bool.not_eq_true] at h1
        simp [h1, selim]
  have := key l.length 0 0 (by omega)
  simp only [Int.cast_ofNat_Int, List.drop_zero] at this
  rw [this]
  cases okFrom 0 l <;> rfl

def keyBefore (l : List Item) : Nat → Int
  | 0 => 0
  | k + 1 => (l.getD k (0, [], 0)).1
theorem specStore_ok {l : List Item} (hb : ∀ x ∈ l, x.2.1.length < 2000000) (hL : l.length < 2000000) : M.spec_validStore l = some (okStore l) := by
  unfold M.spec_validStore okStore
  have key : ∀ m k : Nat, k + m = l.length → loopM (fun (s2 : (Int)) => (bif decide (s2 < (l.length : Int)) then
  Option.bind ((gidx l s2).bind fun x8 =>
  (M.spec_validItem (x8.1, x8.2.1, x8.2.2)).bind fun r19 =>
  (bif !r19 then
  some true
 else
  (bif decide (0 < s2) then
  (gidx l s2).bind fun x24 =>
  (gidx l (w64 (s2 - 1))).bind fun x29 =>
  some (decide (x24.1 ≤ x29.1))
 else
  some false))) fun o7 =>
  (bif o7 then
  some (.inr (.inr false))
 else
  some (.inl (w64 (s2 + 1))))
 else
  some (.inr (.inl ())))) (k : Int) = some (if okFrom (keyBefore l k) (l.drop k) then (.inl () : Unit ⊕ Bool) else .inr false) := by
    intro m
    induction m with
    | zero =>
      intro k hk
      have : k = l.length := by omega
      subst this
      rw [loopM_eq]; simp [selim, okFrom]
    | succ m ih =>
      intro k hk
      have hlt : k < l.length := by omega
      rw [loopM_eq, List.drop_eq_getElem_cons hlt]
      have e1 : decide ((k : Int) < (l.length : Int)) = true := by simpa using hlt
      have e2 : w64 ((k : Int) + 1) = ((k + 1 : Nat) : Int) := w64_id (by omega) (by omega)
      have hnext : keyBefore l (k + 1) = l[k].1 := by simp [keyBefore, List.getD, hlt]
      have ih' := ih (k + 1) (by omega)
      rw [hnext] at ih'
      simp only [e1, cond_true, gidx_nat hlt, Option.bind_some, specItem_ok (hb _ (List.getElem_mem hlt)), e2, okFrom]
      by_cases h1 : isItem l[k] = true
      · simp only [h1, Bool.not_true, cond_false, Bool.true_and]
        match k, hlt with
        | 0, hlt =>
          have hpos : keyBefore l 0 < l[0].1 := by
            have : 1 ≤ l[0].1 := by
              unfold isItem at h1; simp at h1; exact h1.1.1
            show 0 < _; omega
          have e3 : decide ((0 : Int) < ((0 : Nat) : Int)) = false := rfl
          simp only [e3, cond_false, Option.bind_some, hpos, decide_true, Bool.true_and, selim]
          exact ih'
        | j + 1, hlt =>
          have e3 : decide ((0 : Int) < ((j + 1 : Nat) : Int)) = true := by simp
          have e4 : w64 (((j + 1 : Nat) : Int) - 1) = (j : Int) := by rw [w64_id (by omega) (by omega)]; omega
          have hj : j < l.length := by omega
          have hk : keyBefore l (j + 1) = l[j].1 := by simp [keyBefore, List.getD, hj]
          simp only [e3, cond_true, e4, gidx_nat hj, Option.bind_some, hk]
          by_cases h2 : l[j].1 < l[j + 1].1
          · have h2' : ¬ l[j + 1].1 ≤ l[j].1 := by omega
            simp only [h2, h2', decide_false, decide_true, cond_false, Bool.true_and, selim, Option.bind_some]
            exact ih'
          · have h2' : l[j + 1].1 ≤ l[j].1 := by omega
            simp [h2, h2', selim]
      · simp only [Bool.not_eq_true] at h1
        simp [h1, selim]
  have := key l.length 0 (by omega)
  simp only [Int.cast_ofNat_Int, List.drop_zero] at this
  rw [this]
  show _ = some (decide (l.length ≤ 16) && okFrom 0 l)
  have e : keyBefore l 0 = 0 := rfl
  rw [e]
  by_cases h16 : l.length ≤ 16
  · have : decide ((l.length : Int) ≤ 16) = true := by simp; omega
    cases okFrom 0 l <;> simp [selim, this, h16]
  · have : decide ((l.length : Int) ≤ 16) = false := by simp; omega
    cases okFrom 0 l <;> simp [selim, this, h16]
end Go.Vs

namespace Go.Vs

theorem szIntS_ok {a : List Int} {left : Int} (ha : a.length ≤ 9223372036854775807) (h0 : 0 ≤ left) (h1 : left ≤ 1048576) :
    ∃ s, M.laws_szIntS a left = some s ∧ (s < 0 ∨ (0 ≤ s ∧ s ≤ left ∧ a.length ≤ 1048576)) := by
  unfold M.laws_szIntS
  rw [w64_id (by omega) (by omega)]
  by_cases h : left - (a.length : Int) < 0
  · exact ⟨-1, by simp [h], .inl (by omega)⟩
  · exact ⟨left - a.length, by simp [h], .inr (by omega)⟩
theorem szItem_ok {x : Item} {left : Int} (ha : x.2.1.length ≤ 9223372036854775807) (h0 : 0 ≤ left) (h1 : left ≤ 1048576) :
    ∃ s, M.laws_szItem x left = some s ∧ (s < 0 ∨ (0 ≤ s ∧ s ≤ left ∧ x.2.1.length ≤ 1048576)) := by
  obtain ⟨s, e, h⟩ := szIntS_ok ha h0 h1
  unfold M.laws_szItem
  simp only [e, Option.bind_some]
  by_cases c : s < 0
  · exact ⟨-1, by simp [c], .inl (by omega)⟩
  · exact ⟨s, by simp [c], h⟩
theorem szItemS_ok {a : List Item} {left : Int} (ha : a.length ≤ 9223372036854775807) (hx : ∀ x ∈ a, x.2.1.length ≤ 9223372036854775807) (h0 : 0 ≤ left) (h1 : left ≤ 1048576) :
    ∃ s, M.laws_szItemS a left = some s ∧ (s < 0 ∨ (0 ≤ s ∧ a.length ≤ 1048576 ∧ ∀ x ∈ a, x.2.1.length ≤ 1048576)) := by
  unfold M.laws_szItemS
  rw [w64_id (by omega) (by omega)]
  by_cases h : left - (a.length : Int) < 0
  · exact ⟨-1, by simp [h], .inl (by omega)⟩
  simp only [h, decide_false, cond_false]
  have hl : a.length ≤ 1048576 := by omega
  have key : ∀ m k : Nat, ∀ l : Int, k + m = a.length → 0 ≤ l → l ≤ 1048576 → ∃ r : Int ⊕ Int, loopM (fun (s3 : (Int) × (Int)) => (bif decide (s3.2 < (a.length : Int)) then
  (gidx a s3.2).bind fun x8 =>
  (M.laws_szItem (x8.1, x8.2.1, x8.2.2) s3.1).bind fun r19 =>
  (bif decide (r19 < 0) then
  some (.inr (.inr (-1)))
 else
  some (.inl (r19, w64 (s3.2 + 1))))
 else
  some (.inr (.inl s3.1)))) (l, (k : Int)) = some r ∧ (r = .inr (-1) ∨ ∃ l', r = .inl l' ∧ 0 ≤ l' ∧ ∀ x ∈ a.drop k, x.2.1.length ≤ 1048576) := by
    intro m
    induction m with
    | zero =>
      intro k l hk hl0 _
      have : k = a.length := by omega
      subst this
      refine ⟨.inl l, ?_, .inr ⟨l, rfl, hl0, by simp⟩⟩
      rw [loopM_eq]; simp [selim]
    | succ m ih =>
      intro k l hk hl0 hl1
      have hlt : k < a.length := by omega
      have e1 : decide ((k : Int) < (a.length : Int)) = true := by simpa using hlt
      have e2 : w64 ((k : Int) + 1) = ((k + 1 : Nat) : Int) := w64_id (by omega) (by omega)
      obtain ⟨s, es, hs⟩ := szItem_ok (x := a[k]) (hx _ (List.getElem_mem hlt)) hl0 hl1
      have es' : M.laws_szItem (a[k].1, a[k].2.1, a[k].2.2) l = some s := es
      rw [loopM_eq]
      simp only [e1, cond_true, gidx_nat hlt, Option.bind_some, es', e2]
      rcases hs with hs | ⟨hs0, hs1, hs2⟩
      · exact ⟨.inr (-1), by simp [hs, selim], .inl rfl⟩
      · obtain ⟨r, hr, hr'⟩ := ih (k + 1) s (by omega) hs0 (by omega)
        refine ⟨r, ?_, ?_⟩
        · have : ¬ s < 0 := by omega
          simp only [this, decide_false, cond_false, selim, Option.bind_some]
          exact hr
        · rcases hr' with hr' | ⟨l', e, h0', hall⟩
          · exact .inl hr'
          · refine .inr ⟨l', e, h0', ?_⟩
            rw [List.drop_eq_getElem_cons hlt]
            intro x hx'
            rcases List.mem_cons.1 hx' with h | h
            · subst h; exact hs2
            · exact hall x h
  obtain ⟨r, hr, hr'⟩ := key a.length 0 (left - a.length) (by omega) (by omega) (by omega)
  simp only [Int.cast_ofNat_Int] at hr
  rw [hr]
  rcases hr' with rfl | ⟨l', rfl, h0', hall⟩
  · exact ⟨-1, rfl, .inl (by omega)⟩
  · exact ⟨l', rfl, .inr ⟨h0', hl, by simpa using hall⟩⟩

theorem copy_loop {α : Type} {a : List α} {z : α} {g : α → Option α} (ha : a.length ≤ 1048576) (hg : ∀ x ∈ a, g x = some x) {f : List α × Int → Option ((List α × Int) ⊕ List α)}
    (hs : ∀ (s : List α) (i : Nat) (h : i < a.length) (h' : i < s.length), g a[i] = some a[i] → f (s, (i : Int)) = some (.inl (s.set i a[i], ((i + 1 : Nat) : Int)))) (he : ∀ s, f (s, (a.length : Int)) = some (.inr s)) :
    loopM f (List.replicate a.length z, 0) = some a := by
  have hloop := loop_run (R := List α) (f := f) (r := a) a.length (fun i => (a.take i ++ List.replicate (a.length - i) z, (i : Int))) (by
    intro i hi
    have hl : i < (a.take i ++ List.replicate (a.length - i) z).length := by simp; omega
    rw [hs _ i hi hl (hg _ (List.getElem_mem hi))]
    have hr : List.replicate (a.length - i) z = z :: List.replicate (a.length - (i + 1)) z := by
      rw [show a.length - i = (a.length - (i + 1)) + 1 by omega, List.replicate_succ]
    rw [List.take_succ_eq_append_getElem hi, hr, List.set_append_right _ _ (by simp; omega)]
    have : i - (a.take i).length = 0 := by simp; omega
    rw [this]; simp only [List.set_cons_zero, List.append_assoc, List.cons_append, List.nil_append]) (by
    rw [he]; simp)
  simpa using hloop
theorem toItem_ok {x : Item} (h : x.2.1.length ≤ 1048576) : M.laws_toItem (x.1, x.2.1, x.2.2) = some x := by
  unfold M.laws_toItem; simp only [toIntS_ok h, Option.bind_some]
theorem toItemS_ok {a : List Item} (h : a.length ≤ 1048576) (hx : ∀ x ∈ a, x.2.1.length ≤ 1048576) : M.laws_toItemS a = some a := by
  unfold M.laws_toItemS
  rw [gmake_ok (by omega) (by omega)]
  simp only [Option.bind_some, Int.toNat_natCast]
  rw [copy_loop (a := a) (g := fun x => M.laws_toItem (x.1, x.2.1, x.2.2)) h (fun x hx' => toItem_ok (hx x hx'))]
  · rfl
  · intro s i hi hi' hg
    have e1 : decide ((i : Int) < (a.length : Int)) = true := by simpa using hi
    have e2 : w64 ((i : Int) + 1) = ((i + 1 : Nat) : Int) := w64_id (by omega) (by omega)
    simp only [e1, cond_true, gidx_nat hi, gidx_nat hi', Option.bind_some, hg, e2, Int.toNat_natCast]
  · intro s; simp
theorem eqItem_self {x : Item} (h : x.2.1.length < 2000000) : M.laws_eqItem (x.1, x.2.1, x.2.2) (x.1, x.2.1, x.2.2) = some true := by
  unfold M.laws_eqItem
  simp only [bne_self_eq_false, cond_false, eqIntS_ok h, decide_true, Bool.not_true, Option.bind_some]
theorem eqItemS_self {a : List Item} (h : a.length < 2000000) (hx : ∀ x ∈ a, x.2.1.length < 2000000) : M.laws_eqItemS a a = some true := by
  unfold M.laws_eqItemS
  simp only [bne_self_eq_false, cond_false]
  rw [loop_all (xs := a) (P := fun _ => true) (r := false)]
  · simp [selim]
  · intro i hi
    have e1 : decide ((i : Int) < (a.length : Int)) = true := by simpa using hi
    have e2 : w64 ((i : Int) + 1) = (i : Int) + 1 := w64_id (by omega) (by omega)
    simp only [e1, cond_true, gidx_nat hi, Option.bind_some, eqItem_self (hx _ (List.getElem_mem hi)), Bool.not_true, cond_false, e2, if_true]
  · simp

end Go.Vs

namespace Go.Vs

theorem w64_succ {i : Nat} (h : i < 4000000000000000000) : w64 ((i : Int) + 1) = ((i + 1 : Nat) : Int) := w64_id (by omega) (by omega)

section
variable {α S T R U : Type} {xs : List α}
end

/-! ## Valid stores as lists that ascend -/
theorem okFrom_iff {l : List Item} : ∀ {p : Int}, okFrom p l = true ↔ (∀ x ∈ l, isItem x = true ∧ p < x.1) ∧ l.Pairwise (fun x y => x.1 < y.1) := by
  induction l with
  | nil => intro p; simp [okFrom]
  | cons x l ih =>
    intro p
    simp only [okFrom, Bool.and_eq_true, decide_eq_true_eq, ih, List.pairwise_cons, List.mem_cons, forall_eq_or_imp]
    constructor
    · rintro ⟨⟨h1, h2⟩, h3, h4⟩
      exact ⟨⟨⟨h1, h2⟩, fun y hy => ⟨(h3 y hy).1, by have := (h3 y hy).2; omega⟩⟩, fun y hy => (h3 y hy).2, h4⟩
    · rintro ⟨⟨⟨h1, h2⟩, h3⟩, h4, h5⟩
      exact ⟨⟨h1, h2⟩, fun y hy => ⟨(h3 y hy).1, h4 y hy⟩, h5⟩
theorem isItem_iff {x : Item} : isItem x = true ↔ (1 ≤ x.1 ∧ x.1 ≤ 99) ∧ isVec x.2.1 = true ∧ 0 ≤ x.2.2 ∧ x.2.2 ≤ 15 := by
  unfold isItem; simp only [Bool.and_eq_true, decide_eq_true_eq]
theorem okStore_iff {l : List Item} : okStore l = true ↔ l.length ≤ 16 ∧ (∀ x ∈ l, isItem x = true) ∧ l.Pairwise (fun x y => x.1 < y.1) := by
  unfold okStore
  simp only [Bool.and_eq_true, decide_eq_true_eq, okFrom_iff]
  constructor
  · rintro ⟨h1, h2, h3⟩; exact ⟨h1, fun x hx => (h2 x hx).1, h3⟩
  · rintro ⟨h1, h2, h3⟩; exact ⟨h1, fun x hx => ⟨h2 x hx, by have := (isItem_iff.1 (h2 x hx)).1.1; omega⟩, h3⟩
def SmallS (l : List Item) : Prop := l.length ≤ 1048576 ∧ ∀ x ∈ l, x.2.1.length ≤ 1048576
theorem SmallS.hb {l : List Item} (h : SmallS l) : ∀ x ∈ l, x.2.1.length < 2000000 := fun x hx => by have := h.2 x hx; omega
theorem SmallS.hL {l : List Item} (h : SmallS l) : l.length < 2000000 := by have := h.1; omega
theorem SmallS.impl {l : List Item} (h : SmallS l) : M.impl_ValidStore l = some (okStore l) := implStore_ok h.hb
theorem SmallS.specv {l : List Item} (h : SmallS l) : M.spec_validStore l = some (okStore l) := specStore_ok h.hb h.hL
/-! ## Putting -/
/-! ## Draws -/
def NearI (x : Item) : Prop := (0 ≤ x.1 ∧ x.1 ≤ 100) ∧ Near x.2.1 ∧ -1 ≤ x.2.2 ∧ x.2.2 ≤ 16
end Go.Vs

namespace Go.Vs

theorem wk_i64 (n : Int) : wk .i64 n = w64 n := rfl
theorem wk_u64 {n : Int} (h0 : 0 ≤ n) (h : n < 18446744073709551616) : wk .u64 n = n := by
  simp only [wk, Go.IntKind.wrap, Go.IntKind.bits, Go.IntKind.signed, Bool.false_and]
  have e1 : ((2 : Int) ^ (64 : Nat)) = 18446744073709551616 := by decide
  rw [e1]
  simp; omega
def cmpI (x y : Int) : Int := if x < y then -1 else if y < x then 1 else 0
theorem compare_ok (x y : Int) : M.cmp_Compare_int x y = some (cmpI x y) := by
  unfold M.cmp_Compare_int M.cmp_isNaN_int cmpI
  simp only [bne_self_eq_false, Option.bind_some, cond_false]
  by_cases h1 : x < y
  · simp [h1]
  · by_cases h2 : y < x <;> simp [h1, h2]
theorem cmpI_neg {x y : Int} : cmpI x y < 0 ↔ x < y := by unfold cmpI; split <;> (try split) <;> omega
theorem cmpI_zero {x y : Int} : cmpI x y = 0 ↔ x = y := by unfold cmpI; split <;> (try split) <;> omega
theorem cmpI_pos {x y : Int} : 0 < cmpI x y ↔ y < x := by unfold cmpI; split <;> (try split) <;> omega

end Go.Vs

namespace Go.Vs

section
variable {α S T R U : Type} {xs : List α}
end

theorem isItem_vec {x : Item} (h : isItem x = true) : isVec x.2.1 = true := (isItem_iff.1 h).2.1

end Go.Vs

namespace Go.Vs

/-! ## InBox -/
end Go.Vs

namespace Go.Vs

def isKind (k : Int) : Bool := decide (1 ≤ k) && decide (k ≤ 4)
theorem isKind_iff {k : Int} : isKind k = true ↔ 1 ≤ k ∧ k ≤ 4 := by unfold isKind; simp
theorem implKind_ok (k : Int) : M.impl_validKind k = some (isKind k) := by
  unfold M.impl_validKind isKind
  by_cases h : 1 ≤ k <;> simp [h]
theorem specKind_ok (k : Int) : M.spec_validKind k = some (isKind k) := by
  unfold M.spec_validKind; simp only [spec_inR, Option.bind_some]; rfl
theorem specDist_vec {k : Int} {a b : List Int} (hk : isKind k = true) (ha : isVec a = true) (hb : isVec b = true) : M.spec_dist k a b = some (dist k a b) := by
  obtain ⟨x0, x1, x2, x3, rfl, c0, c1, c2, c3⟩ := isVec_cut ha
  obtain ⟨y0, y1, y2, y3, rfl, e0, e1, e2, e3⟩ := isVec_cut hb
  rw [dist_vec ha hb]
  exact specDist_ok (isKind_iff.1 hk) c0 c1 c2 c3 e0 e1 e2 e3
theorem implDist_vec {k : Int} {a b : List Int} (ha : isVec a = true) (hb : isVec b = true) : M.impl_Distance k a b = some (dist k a b) :=
  implDistance_ok k (by rw [(isVec_iff.1 ha).1]; omega) (by rw [(isVec_iff.1 hb).1]; omega)

end Go.Vs

namespace Go.Vs

/-! ## What is drawn -/
theorem NearI.le {x : Item} (h : NearI x) : x.2.1.length ≤ 1048576 := by have := h.2.1.1; omega
section
variable {code : List UInt8}
end
end Go.Vs

namespace Go.Vs

end Go.Vs

namespace Go.Vs

end Go.Vs

namespace Go.Vs

end Go.Vs

namespace Go.Vs

noncomputable def G.ins {α : Type} (cmp : α → α → Option Int) (data_0 : List α) (a_1 : Int) (b_2 : Int) : Option ((List α)) :=
  Option.bind (loopM (fun (s2 : (List α) × (Int)) => (bif decide (s2.2 < b_2) then
  Option.bind (loopM (fun (s7 : (List α) × (Int)) => Option.bind ((bif decide (a_1 < s7.2) then
  (gidx s7.1 s7.2).bind fun x12 =>
  (gidx s7.1 (w64 (s7.2 - 1))).bind fun x19 =>
  (cmp x12 x19).bind fun r27 =>
  some (decide (r27 < 0))
 else
  some false)) fun o10 =>
  (bif o10 then
  (gidx s7.1 (w64 (s7.2 - 1))).bind fun x34 =>
  (gidx s7.1 s7.2).bind fun x41 =>
  (gidx s7.1 s7.2).bind fun x48 =>
  (gidx (s7.1.set s7.2.toNat x34) (w64 (s7.2 - 1))).bind fun x54 =>
  some (.inl (((s7.1.set s7.2.toNat x34).set (w64 (s7.2 - 1)).toNat x41), w64 (s7.2 - 1)))
 else
  some (.inr s7.1))) s2) fun o6 =>
  some (.inl (o6, w64 (s2.2 + 1)))
 else
  some (.inr s2.1))) (data_0, w64 (a_1 + 1))) fun o1 =>
  some o1

noncomputable def G.sift {α : Type} (cmp : α → α → Option Int) (data_0 : List α) (lo_1 : Int) (hi_2 : Int) (first_3 : Int) : Option ((List α)) :=
  Option.bind (loopM (fun (s2 : (List α) × (Int)) => (bif decide (hi_2 ≤ (w64 ((w64 (2 * s2.2)) + 1))) then
  some (.inr (.inl s2.1))
 else
  Option.bind ((bif decide ((w64 ((w64 ((w64 (2 * s2.2)) + 1)) + 1)) < hi_2) then
  (gidx s2.1 (w64 (first_3 + (w64 ((w64 (2 * s2.2)) + 1))))).bind fun x8 =>
  (gidx s2.1 (w64 ((w64 (first_3 + (w64 ((w64 (2 * s2.2)) + 1)))) + 1))).bind fun x15 =>
  (cmp x8 x15).bind fun r23 =>
  some (decide (r23 < 0))
 else
  some false)) fun o6 =>
  Option.bind ((bif o6 then
  some (w64 ((w64 ((w64 (2 * s2.2)) + 1)) + 1))
 else
  some (w64 ((w64 (2 * s2.2)) + 1)))) fun o29 =>
  (gidx s2.1 (w64 (first_3 + s2.2))).bind fun x32 =>
  (gidx s2.1 (w64 (first_3 + o29))).bind fun x39 =>
  (cmp x32 x39).bind fun r47 =>
  (bif !(decide (r47 < 0)) then
  some (.inr (.inr s2.1))
 else
  (gidx s2.1 (w64 (first_3 + o29))).bind fun x52 =>
  (gidx s2.1 (w64 (first_3 + s2.2))).bind fun x59 =>
  (gidx s2.1 (w64 (first_3 + s2.2))).bind fun x66 =>
  (gidx (s2.1.set (w64 (first_3 + s2.2)).toNat x52) (w64 (first_3 + o29))).bind fun x72 =>
  some (.inl (((s2.1.set (w64 (first_3 + s2.2)).toNat x52).set (w64 (first_3 + o29)).toNat x59), o29))))) (data_0, lo_1)) (selim (fun t78 => some t78)
   (fun t81 => some t81))

noncomputable def G.heap {α : Type} (cmp : α → α → Option Int) (data_0 : List α) (a_1 : Int) (b_2 : Int) : Option ((List α)) :=
  Option.bind (loopM (fun (s2 : (List α) × (Int)) => (bif decide (0 ≤ s2.2) then
  (G.sift cmp s2.1 s2.2 (w64 (b_2 - a_1)) a_1).bind fun r6 =>
  some (.inl (r6, w64 (s2.2 - 1)))
 else
  some (.inr s2.1))) (data_0, w64 ((w64 ((w64 (b_2 - a_1)) - 1)).tdiv 2))) fun o1 =>
  Option.bind (loopM (fun (s14 : (List α) × (Int)) => (bif decide (0 ≤ s14.2) then
  (gidx s14.1 (w64 (a_1 + s14.2))).bind fun x18 =>
  (gidx s14.1 a_1).bind fun x25 =>
  (gidx s14.1 a_1).bind fun x32 =>
  (gidx (s14.1.set a_1.toNat x18) (w64 (a_1 + s14.2))).bind fun x38 =>
  (G.sift cmp ((s14.1.set a_1.toNat x18).set (w64 (a_1 + s14.2)).toNat x25) 0 s14.2 a_1).bind fun r44 =>
  some (.inl (r44, w64 (s14.2 - 1)))
 else
  some (.inr s14.1))) (o1, w64 ((w64 (b_2 - a_1)) - 1))) fun o13 =>
  some o13

noncomputable def G.brk {α : Type} (cmp : α → α → Option Int) (data_0 : List α) (a_1 : Int) (b_2 : Int) : Option ((List α)) :=
  (bif decide (8 ≤ (w64 (b_2 - a_1))) then
  (M.slices_nextPowerOfTwo (w64 (b_2 - a_1))).bind fun r5 =>
  Option.bind (loopM (fun (s10 : (List α) × (Int) × (Int)) => (bif decide (s10.2.2 ≤ (w64 ((w64 (a_1 + (w64 ((w64 ((w64 (b_2 - a_1)).tdiv 4)) * 2)))) + 1))) then
  (M.slices_xorshift_Next s10.2.1).bind fun r14 =>
  Option.bind ((bif decide ((w64 (b_2 - a_1)) ≤ (wk .i64 (gandk .u64 r14.1 (wk .u64 (r5 - 1))))) then
  some (w64 ((wk .i64 (gandk .u64 r14.1 (wk .u64 (r5 - 1)))) - (w64 (b_2 - a_1))))
 else
  some (wk .i64 (gandk .u64 r14.1 (wk .u64 (r5 - 1)))))) fun o18 =>
  (gidx s10.1 (w64 (a_1 + o18))).bind fun x21 =>
  (gidx s10.1 s10.2.2).bind fun x28 =>
  (gidx s10.1 s10.2.2).bind fun x35 =>
  (gidx (s10.1.set s10.2.2.toNat x21) (w64 (a_1 + o18))).bind fun x41 =>
  some (.inl (((s10.1.set s10.2.2.toNat x21).set (w64 (a_1 + o18)).toNat x28), r14.2, w64 (s10.2.2 + 1)))
 else
  some (.inr s10.1))) (data_0, wk .u64 (w64 (b_2 - a_1)), w64 ((w64 (a_1 + (w64 ((w64 ((w64 (b_2 - a_1)).tdiv 4)) * 2)))) - 1))) fun o9 =>
  some o9
 else
  some data_0)

noncomputable def G.o2 {α : Type} (cmp : α → α → Option Int) (data_0 : List α) (a_1 : Int) (b_2 : Int) (swaps_3 : Int) : Option (Int × Int × Int) :=
  (gidx data_0 b_2).bind fun x1 =>
  (gidx data_0 a_1).bind fun x8 =>
  (cmp x1 x8).bind fun r16 =>
  (bif decide (r16 < 0) then
  some (b_2, a_1, w64 (swaps_3 + 1))
 else
  some (a_1, b_2, swaps_3))

noncomputable def G.med {α : Type} (cmp : α → α → Option Int) (data_0 : List α) (a_1 : Int) (b_2 : Int) (c_3 : Int) (swaps_4 : Int) : Option (Int × Int) :=
  (G.o2 cmp data_0 a_1 b_2 swaps_4).bind fun r1 =>
  (G.o2 cmp data_0 r1.2.1 c_3 r1.2.2).bind fun r5 =>
  (G.o2 cmp data_0 r1.1 r5.1 r5.2.2).bind fun r9 =>
  some (r9.2.1, r9.2.2)

noncomputable def G.medA {α : Type} (cmp : α → α → Option Int) (data_0 : List α) (a_1 : Int) (swaps_2 : Int) : Option (Int × Int) :=
  (G.med cmp data_0 (w64 (a_1 - 1)) a_1 (w64 (a_1 + 1)) swaps_2).bind fun r1 =>
  some r1

noncomputable def G.piv {α : Type} (cmp : α → α → Option Int) (data_0 : List α) (a_1 : Int) (b_2 : Int) : Option (Int × Int) :=
  Option.bind ((bif decide (8 ≤ (w64 (b_2 - a_1))) then
  Option.bind ((bif decide (50 ≤ (w64 (b_2 - a_1))) then
  (G.medA cmp data_0 (w64 (a_1 + (w64 ((w64 ((w64 (b_2 - a_1)).tdiv 4)) * 1)))) 0).bind fun r7 =>
  (G.medA cmp data_0 (w64 (a_1 + (w64 ((w64 ((w64 (b_2 - a_1)).tdiv 4)) * 2)))) r7.2).bind fun r11 =>
  (G.medA cmp data_0 (w64 (a_1 + (w64 ((w64 ((w64 (b_2 - a_1)).tdiv 4)) * 3)))) r11.2).bind fun r15 =>
  some (r15.2, r7.1, r11.1, r15.1)
 else
  some (0, w64 (a_1 + (w64 ((w64 ((w64 (b_2 - a_1)).tdiv 4)) * 1))), w64 (a_1 + (w64 ((w64 ((w64 (b_2 - a_1)).tdiv 4)) * 2))), w64 (a_1 + (w64 ((w64 ((w64 (b_2 - a_1)).tdiv 4)) * 3)))))) fun o5 =>
  (G.med cmp data_0 o5.2.1 o5.2.2.1 o5.2.2.2 o5.1).bind fun r20 =>
  some (r20.2, r20.1)
 else
  some (0, w64 (a_1 + (w64 ((w64 ((w64 (b_2 - a_1)).tdiv 4)) * 2)))))) fun o3 =>
  (bif o3.1 == 0 then
  some (o3.2, 1)
 else
  (bif o3.1 == 12 then
  some (o3.2, 2)
 else
  some (o3.2, 0)))

noncomputable def G.rev {α : Type} (cmp : α → α → Option Int) (data_0 : List α) (a_1 : Int) (b_2 : Int) : Option ((List α)) :=
  Option.bind (loopM (fun (s2 : (List α) × (Int) × (Int)) => (bif decide (s2.2.1 < s2.2.2) then
  (gidx s2.1 s2.2.2).bind fun x6 =>
  (gidx s2.1 s2.2.1).bind fun x13 =>
  (gidx s2.1 s2.2.1).bind fun x20 =>
  (gidx (s2.1.set s2.2.1.toNat x6) s2.2.2).bind fun x26 =>
  some (.inl (((s2.1.set s2.2.1.toNat x6).set s2.2.2.toNat x13), w64 (s2.2.1 + 1), w64 (s2.2.2 - 1)))
 else
  some (.inr s2.1))) (data_0, a_1, w64 (b_2 - 1))) fun o1 =>
  some o1

noncomputable def G.par {α : Type} (cmp : α → α → Option Int) (data_0 : List α) (a_1 : Int) (b_2 : Int) : Option (Bool × (List α)) :=
  Option.bind (loopM (fun (s2 : (List α) × (Int) × (Int)) => (bif decide (s2.2.2 < 5) then
  Option.bind (Option.bind (loopM (fun (s8 : (Int)) => Option.bind ((bif decide (s8 < b_2) then
  (gidx s2.1 s8).bind fun x12 =>
  (gidx s2.1 (w64 (s8 - 1))).bind fun x19 =>
  (cmp x12 x19).bind fun r27 =>
  some (!(decide (r27 < 0)))
 else
  some false)) fun o10 =>
  (bif o10 then
  some (.inl (w64 (s8 + 1)))
 else
  some (.inr s8))) s2.2.1) fun o7 =>
  (bif o7 == b_2 then
  some (.inr (s2.1, true))
 else
  (bif decide ((w64 (b_2 - a_1)) < 50) then
  some (.inr (s2.1, false))
 else
  (gidx s2.1 (w64 (o7 - 1))).bind fun x37 =>
  (gidx s2.1 o7).bind fun x44 =>
  (gidx s2.1 o7).bind fun x51 =>
  (gidx (s2.1.set o7.toNat x37) (w64 (o7 - 1))).bind fun x57 =>
  Option.bind ((bif decide (2 ≤ (w64 (o7 - a_1))) then
  Option.bind (loopM (fun (s66 : (List α) × (Int)) => (bif decide (1 ≤ s66.2) then
  (gidx s66.1 s66.2).bind fun x70 =>
  (gidx s66.1 (w64 (s66.2 - 1))).bind fun x77 =>
  (cmp x70 x77).bind fun r85 =>
  (bif !(decide (r85 < 0)) then
  some (.inr s66.1)
 else
  (gidx s66.1 (w64 (s66.2 - 1))).bind fun x90 =>
  (gidx s66.1 s66.2).bind fun x97 =>
  (gidx s66.1 s66.2).bind fun x104 =>
  (gidx (s66.1.set s66.2.toNat x90) (w64 (s66.2 - 1))).bind fun x110 =>
  some (.inl (((s66.1.set s66.2.toNat x90).set (w64 (s66.2 - 1)).toNat x97), w64 (s66.2 - 1))))
 else
  some (.inr s66.1))) (((s2.1.set o7.toNat x37).set (w64 (o7 - 1)).toNat x44), w64 (o7 - 1))) fun o65 =>
  some o65
 else
  some ((s2.1.set o7.toNat x37).set (w64 (o7 - 1)).toNat x44))) fun o63 =>
  (bif decide (2 ≤ (w64 (b_2 - o7))) then
  Option.bind (loopM (fun (s122 : (List α) × (Int)) => (bif decide (s122.2 < b_2) then
  (gidx s122.1 s122.2).bind fun x126 =>
  (gidx s122.1 (w64 (s122.2 - 1))).bind fun x133 =>
  (cmp x126 x133).bind fun r141 =>
  (bif !(decide (r141 < 0)) then
  some (.inr s122.1)
 else
  (gidx s122.1 (w64 (s122.2 - 1))).bind fun x146 =>
  (gidx s122.1 s122.2).bind fun x153 =>
  (gidx s122.1 s122.2).bind fun x160 =>
  (gidx (s122.1.set s122.2.toNat x146) (w64 (s122.2 - 1))).bind fun x166 =>
  some (.inl (((s122.1.set s122.2.toNat x146).set (w64 (s122.2 - 1)).toNat x153), w64 (s122.2 + 1))))
 else
  some (.inr s122.1))) (o63, w64 (o7 + 1))) fun o121 =>
  some (.inl (o121, o7))
 else
  some (.inl (o63, o7)))))) (selim (fun t174 => some (.inl (t174.1, t174.2, w64 (s2.2.2 + 1))))
   (fun t177 => some (.inr (.inr t177))))
 else
  some (.inr (.inl s2.1)))) (data_0, w64 (a_1 + 1), 0)) (selim (fun t180 => some (false, t180))
   (fun t183 => some (t183.2, t183.1)))

noncomputable def G.peq {α : Type} (cmp : α → α → Option Int) (data_0 : List α) (a_1 : Int) (b_2 : Int) (pivot_3 : Int) : Option (Int × (List α)) :=
  (gidx data_0 pivot_3).bind fun x1 =>
  (gidx data_0 a_1).bind fun x8 =>
  (gidx data_0 a_1).bind fun x15 =>
  (gidx (data_0.set a_1.toNat x1) pivot_3).bind fun x21 =>
  Option.bind (loopM (fun (s28 : (List α) × (Int) × (Int)) => Option.bind (loopM (fun (s32 : (Int)) => Option.bind ((bif decide (s32 ≤ s28.2.2) then
  (gidx s28.1 a_1).bind fun x36 =>
  (gidx s28.1 s32).bind fun x43 =>
  (cmp x36 x43).bind fun r51 =>
  some (!(decide (r51 < 0)))
 else
  some false)) fun o34 =>
  (bif o34 then
  some (.inl (w64 (s32 + 1)))
 else
  some (.inr s32))) s28.2.1) fun o31 =>
  Option.bind (loopM (fun (s60 : (Int)) => Option.bind ((bif decide (o31 ≤ s60) then
  (gidx s28.1 a_1).bind fun x64 =>
  (gidx s28.1 s60).bind fun x71 =>
  (cmp x64 x71).bind fun r79 =>
  some (decide (r79 < 0))
 else
  some false)) fun o62 =>
  (bif o62 then
  some (.inl (w64 (s60 - 1)))
 else
  some (.inr s60))) s28.2.2) fun o59 =>
  (bif decide (o59 < o31) then
  some (.inr (s28.1, o31))
 else
  (gidx s28.1 o59).bind fun x88 =>
  (gidx s28.1 o31).bind fun x95 =>
  (gidx s28.1 o31).bind fun x102 =>
  (gidx (s28.1.set o31.toNat x88) o59).bind fun x108 =>
  some (.inl (((s28.1.set o31.toNat x88).set o59.toNat x95), w64 (o31 + 1), w64 (o59 - 1))))) (((data_0.set a_1.toNat x1).set pivot_3.toNat x8), w64 (a_1 + 1), w64 (b_2 - 1))) fun o27 =>
  some (o27.2, o27.1)

noncomputable def G.prt {α : Type} (cmp : α → α → Option Int) (data_0 : List α) (a_1 : Int) (b_2 : Int) (pivot_3 : Int) : Option (Int × Bool × (List α)) :=
  (gidx data_0 pivot_3).bind fun x1 =>
  (gidx data_0 a_1).bind fun x8 =>
  (gidx data_0 a_1).bind fun x15 =>
  (gidx (data_0.set a_1.toNat x1) pivot_3).bind fun x21 =>
  Option.bind (loopM (fun (s28 : (Int)) => Option.bind ((bif decide (s28 ≤ (w64 (b_2 - 1))) then
  (gidx ((data_0.set a_1.toNat x1).set pivot_3.toNat x8) s28).bind fun x32 =>
  (gidx ((data_0.set a_1.toNat x1).set pivot_3.toNat x8) a_1).bind fun x39 =>
  (cmp x32 x39).bind fun r47 =>
  some (decide (r47 < 0))
 else
  some false)) fun o30 =>
  (bif o30 then
  some (.inl (w64 (s28 + 1)))
 else
  some (.inr s28))) (w64 (a_1 + 1))) fun o27 =>
  Option.bind (loopM (fun (s56 : (Int)) => Option.bind ((bif decide (o27 ≤ s56) then
  (gidx ((data_0.set a_1.toNat x1).set pivot_3.toNat x8) s56).bind fun x60 =>
  (gidx ((data_0.set a_1.toNat x1).set pivot_3.toNat x8) a_1).bind fun x67 =>
  (cmp x60 x67).bind fun r75 =>
  some (!(decide (r75 < 0)))
 else
  some false)) fun o58 =>
  (bif o58 then
  some (.inl (w64 (s56 - 1)))
 else
  some (.inr s56))) (w64 (b_2 - 1))) fun o55 =>
  (bif decide (o55 < o27) then
  (gidx ((data_0.set a_1.toNat x1).set pivot_3.toNat x8) a_1).bind fun x84 =>
  (gidx ((data_0.set a_1.toNat x1).set pivot_3.toNat x8) o55).bind fun x91 =>
  (gidx ((data_0.set a_1.toNat x1).set pivot_3.toNat x8) o55).bind fun x98 =>
  (gidx (((data_0.set a_1.toNat x1).set pivot_3.toNat x8).set o55.toNat x84) a_1).bind fun x104 =>
  some (o55, true, ((((data_0.set a_1.toNat x1).set pivot_3.toNat x8).set o55.toNat x84).set a_1.toNat x91))
 else
  (gidx ((data_0.set a_1.toNat x1).set pivot_3.toNat x8) o55).bind fun x110 =>
  (gidx ((data_0.set a_1.toNat x1).set pivot_3.toNat x8) o27).bind fun x117 =>
  (gidx ((data_0.set a_1.toNat x1).set pivot_3.toNat x8) o27).bind fun x124 =>
  (gidx (((data_0.set a_1.toNat x1).set pivot_3.toNat x8).set o27.toNat x110) o55).bind fun x130 =>
  Option.bind (loopM (fun (s137 : (List α) × (Int) × (Int)) => Option.bind (loopM (fun (s141 : (Int)) => Option.bind ((bif decide (s141 ≤ s137.2.2) then
  (gidx s137.1 s141).bind fun x145 =>
  (gidx s137.1 a_1).bind fun x152 =>
  (cmp x145 x152).bind fun r160 =>
  some (decide (r160 < 0))
 else
  some false)) fun o143 =>
  (bif o143 then
  some (.inl (w64 (s141 + 1)))
 else
  some (.inr s141))) s137.2.1) fun o140 =>
  Option.bind (loopM (fun (s169 : (Int)) => Option.bind ((bif decide (o140 ≤ s169) then
  (gidx s137.1 s169).bind fun x173 =>
  (gidx s137.1 a_1).bind fun x180 =>
  (cmp x173 x180).bind fun r188 =>
  some (!(decide (r188 < 0)))
 else
  some false)) fun o171 =>
  (bif o171 then
  some (.inl (w64 (s169 - 1)))
 else
  some (.inr s169))) s137.2.2) fun o168 =>
  (bif decide (o168 < o140) then
  some (.inr (s137.1, o168))
 else
  (gidx s137.1 o168).bind fun x197 =>
  (gidx s137.1 o140).bind fun x204 =>
  (gidx s137.1 o140).bind fun x211 =>
  (gidx (s137.1.set o140.toNat x197) o168).bind fun x217 =>
  some (.inl (((s137.1.set o140.toNat x197).set o168.toNat x204), w64 (o140 + 1), w64 (o168 - 1))))) (((((data_0.set a_1.toNat x1).set pivot_3.toNat x8).set o27.toNat x110).set o55.toNat x117), w64 (o27 + 1), w64 (o55 - 1))) fun o136 =>
  (gidx o136.1 a_1).bind fun x225 =>
  (gidx o136.1 o136.2).bind fun x232 =>
  (gidx o136.1 o136.2).bind fun x239 =>
  (gidx (o136.1.set o136.2.toNat x225) a_1).bind fun x245 =>
  some (o136.2, false, ((o136.1.set o136.2.toNat x225).set a_1.toNat x232)))

noncomputable def G.pdqF {α : Type} (cmp : α → α → Option Int) (rec : (List α) → (Int) → (Int) → (Int) → Option ((List α))) (data_0 : List α) (a_1 : Int) (b_2 : Int) (limit_3 : Int) : Option ((List α)) :=
  Option.bind (loopM (fun (s2 : (List α) × (Int) × (Int) × (Int) × (Bool) × (Bool)) => (bif decide ((w64 (s2.2.2.1 - s2.2.1)) ≤ 12) then
  (G.ins cmp s2.1 s2.2.1 s2.2.2.1).bind fun r6 =>
  some (.inr r6)
 else
  (bif s2.2.2.2.1 == 0 then
  (G.heap cmp s2.1 s2.2.1 s2.2.2.1).bind fun r12 =>
  some (.inr r12)
 else
  Option.bind ((bif !s2.2.2.2.2.1 then
  (G.brk cmp s2.1 s2.2.1 s2.2.2.1).bind fun r19 =>
  some (r19, w64 (s2.2.2.2.1 - 1))
 else
  some (s2.1, s2.2.2.2.1))) fun o17 =>
  (G.piv cmp o17.1 s2.2.1 s2.2.2.1).bind fun r26 =>
  Option.bind ((bif r26.2 == 2 then
  (G.rev cmp o17.1 s2.2.1 s2.2.2.1).bind fun r32 =>
  some (r32, w64 ((w64 (s2.2.2.1 - 1)) - (w64 (r26.1 - s2.2.1))), 1)
 else
  some (o17.1, r26.1, r26.2))) fun o30 =>
  Option.bind ((bif s2.2.2.2.2.1 then
  (bif s2.2.2.2.2.2 then
  some (o30.2.2 == 1)
 else
  some false)
 else
  some false)) fun o39 =>
  Option.bind ((bif o39 then
  (G.par cmp o30.1 s2.2.1 s2.2.2.1).bind fun r45 =>
  (bif r45.1 then
  some (.inr r45.2)
 else
  some (.inl r45.2))
 else
  some (.inl o30.1))) (selim (fun t51 => Option.bind ((bif decide (0 < s2.2.1) then
  (gidx t51 (w64 (s2.2.1 - 1))).bind fun x56 =>
  (gidx t51 o30.2.1).bind fun x63 =>
  (cmp x56 x63).bind fun r71 =>
  some (!(decide (r71 < 0)))
 else
  some false)) fun o54 =>
  (bif o54 then
  (G.peq cmp t51 s2.2.1 s2.2.2.1 o30.2.1).bind fun r78 =>
  some (.inl (r78.2, r78.1, s2.2.2.1, o17.2, s2.2.2.2.2.1, s2.2.2.2.2.2))
 else
  (G.prt cmp t51 s2.2.1 s2.2.2.1 o30.2.1).bind fun r83 =>
  (bif decide ((w64 (r83.1 - s2.2.1)) < (w64 (s2.2.2.1 - r83.1))) then
  (rec r83.2.2 s2.2.1 r83.1 o17.2).bind fun r89 =>
  some (.inl (r89, w64 (r83.1 + 1), s2.2.2.1, o17.2, decide ((w64 ((w64 (s2.2.2.1 - s2.2.1)).tdiv 8)) ≤ (w64 (r83.1 - s2.2.1))), r83.2.1))
 else
  (rec r83.2.2 (w64 (r83.1 + 1)) s2.2.2.1 o17.2).bind fun r94 =>
  some (.inl (r94, s2.2.1, r83.1, o17.2, decide ((w64 ((w64 (s2.2.2.1 - s2.2.1)).tdiv 8)) ≤ (w64 (s2.2.2.1 - r83.1))), r83.2.1)))))
   (fun t99 => some (.inr t99)))))) (data_0, a_1, b_2, limit_3, true, true)) fun o1 =>
  some o1
noncomputable def G.pdq {α : Type} (cmp : α → α → Option Int) : Nat → (List α) → (Int) → (Int) → (Int) → Option ((List α))
  | 0 => fun _ _ _ _ => none
  | fuel + 1 => G.pdqF cmp (G.pdq cmp fuel)

section
end
end Go.Vs

namespace Go.Vs

section
variable {α : Type} [Inhabited α]
def el (d : List α) (i : Nat) : α := d.getD i default
theorem el_lt {d : List α} {i : Nat} (h : i < d.length) : el d i = d[i] := by simp [el, List.getD, h]
theorem gidx_el {d : List α} {i : Nat} (h : i < d.length) : gidx d (i : Int) = some (el d i) := by rw [gidx_nat h, el_lt h]
theorem el_set {d : List α} {i k : Nat} {x : α} (h : i < d.length) : el (d.set i x) k = if k = i then x else el d k := by
  unfold el
  simp only [List.getD_eq_getElem?_getD, List.getElem?_set]
  by_cases e : i = k
  · subst e; simp [h]
  · simp [e, Ne.symm e]
def swp (d : List α) (i j : Nat) : List α := (d.set i (el d j)).set j (el d i)
theorem swp_len {d : List α} {i j : Nat} : (swp d i j).length = d.length := by simp [swp]
theorem el_swp {d : List α} {i j k : Nat} (hi : i < d.length) (hj : j < d.length) : el (swp d i j) k = if k = j then el d i else if k = i then el d j else el d k := by
  unfold swp
  rw [el_set (by simpa using hj), el_set hi]
theorem swp_perm {d : List α} {i j : Nat} (hi : i < d.length) (hj : j < d.length) : (swp d i j).Perm d := by
  unfold swp
  rw [el_lt hi, el_lt hj]
  exact List.set_set_perm hi hj

structure PermR (a b : Nat) (d d' : List α) : Prop where
  len : d'.length = d.length
  out : ∀ i, i < a ∨ b ≤ i → el d' i = el d i
  perm : d'.Perm d
theorem PermR.refl {a b : Nat} (d : List α) : PermR a b d d := ⟨rfl, fun _ _ => rfl, List.Perm.refl _⟩
theorem PermR.trans {a b : Nat} {d d' d'' : List α} (h : PermR a b d d') (k : PermR a b d' d'') : PermR a b d d'' :=
  ⟨k.len.trans h.len, fun i hi => (k.out i hi).trans (h.out i hi), k.perm.trans h.perm⟩
theorem PermR.mono {a b a' b' : Nat} {d d' : List α} (h : PermR a b d d') (ha : a' ≤ a) (hb : b ≤ b') : PermR a' b' d d' :=
  ⟨h.len, fun i hi => h.out i (by omega), h.perm⟩
theorem PermR.swp {a b i j : Nat} {d : List α} (h1 : a ≤ i) (h2 : i < b) (h3 : a ≤ j) (h4 : j < b) (h5 : b ≤ d.length) : PermR a b d (swp d i j) :=
  ⟨swp_len, fun k hk => by rw [el_swp (by omega) (by omega), if_neg (by omega), if_neg (by omega)], swp_perm (by omega) (by omega)⟩
theorem PermR.mem {a b : Nat} {d d' : List α} (h : PermR a b d d') (hab : a ≤ b) (hb : b ≤ d.length) {i : Nat} (h1 : a ≤ i) (h2 : i < b) : ∃ j, a ≤ j ∧ j < b ∧ el d' i = el d j := by
  have cut : ∀ (e : List α), e.length = d.length → e = e.take a ++ ((e.take b).drop a ++ e.drop b) := by
    intro e he
    rw [← List.append_assoc]
    have : e.take a ++ (e.take b).drop a = e.take b := by
      have := List.take_append_drop a (e.take b)
      rwa [List.take_take, Nat.min_eq_left hab] at this
    rw [this, List.take_append_drop]
  have hl := h.len
  have e1 : d'.take a = d.take a := by
    apply List.ext_getElem
    · simp [hl]
    · intro k h3 h4
      simp only [List.length_take] at h3 h4
      rw [List.getElem_take, List.getElem_take, ← el_lt, ← el_lt]
      exact h.out k (by omega)
  have e2 : d'.drop b = d.drop b := by
    apply List.ext_getElem
    · simp [hl]
    · intro k h3 h4
      simp only [List.length_drop] at h3 h4
      rw [List.getElem_drop, List.getElem_drop, ← el_lt, ← el_lt]
      exact h.out (b + k) (by omega)
  have hp := h.perm
  rw [cut d' hl, cut d rfl, e1, e2] at hp
  have hp2 := (List.perm_append_right_iff _).1 ((List.perm_append_left_iff _).1 hp)
  have hm : el d' i ∈ (d'.take b).drop a := by
    rw [el_lt (by omega)]
    refine List.mem_iff_getElem.2 ⟨i - a, by simp; omega, ?_⟩
    simp only [List.getElem_drop, List.getElem_take]
    congr 1; omega
  have hm2 := hp2.mem_iff.1 hm
  obtain ⟨k, hk, e⟩ := List.mem_iff_getElem.1 hm2
  simp only [List.length_drop, List.length_take] at hk
  refine ⟨a + k, by omega, by omega, ?_⟩
  rw [← e, el_lt (by omega)]
  simp only [List.getElem_drop, List.getElem_take]
end

structure Lin {α : Type} (lt : α → α → Bool) (p : α → Prop) : Prop where
  irrefl : ∀ x, p x → lt x x = false
  trans : ∀ x y z, p x → p y → p z → lt x y = true → lt y z = true → lt x z = true
  total : ∀ x y, p x → p y → x ≠ y → lt x y = true ∨ lt y x = true
theorem Lin.asymm {α : Type} {lt : α → α → Bool} {p : α → Prop} (h : Lin lt p) {x y : α} (hx : p x) (hy : p y) (hl : lt x y = true) : lt y x = false := by
  cases e : lt y x with
  | false => rfl
  | true => have := h.trans x y x hx hy hx hl e; rw [h.irrefl x hx] at this; cases this
theorem Lin.ntrans {α : Type} {lt : α → α → Bool} {p : α → Prop} (h : Lin lt p) {x y z : α} (hx : p x) (hy : p y) (hz : p z) (h1 : lt x y = false) (h2 : lt y z = false) : lt x z = false := by
  cases e : lt x z with
  | false => rfl
  | true =>
    rcases Classical.em (x = y) with rfl | hne
    · rw [h2] at e; cases e
    · rcases h.total x y hx hy hne with h' | h'
      · rw [h1] at h'; cases h'
      · have := h.trans y x z hy hx hz h' e
        rw [h2] at this; cases this
def CmpOk {α : Type} (cmp : α → α → Option Int) (lt : α → α → Bool) (p : α → Prop) : Prop := ∀ x y, p x → p y → ∃ r, cmp x y = some r ∧ decide (r < 0) = lt x y

def AllP {α : Type} [Inhabited α] (p : α → Prop) (d : List α) : Prop := ∀ i, i < d.length → p (el d i)
theorem AllP.of {α : Type} [Inhabited α] {p : α → Prop} {d : List α} (h : ∀ x ∈ d, p x) : AllP p d := fun i hi => h _ (by rw [el_lt hi]; exact List.getElem_mem _)
theorem AllP.perm {α : Type} [Inhabited α] {p : α → Prop} {d d' : List α} (h : AllP p d) (hp : d'.Perm d) : AllP p d' := by
  refine AllP.of fun x hx => ?_
  obtain ⟨i, hi, e⟩ := List.mem_iff_getElem.1 (hp.mem_iff.1 hx)
  rw [← e, ← el_lt hi]; exact h i hi
def Asc {α : Type} [Inhabited α] (lt : α → α → Bool) (a b : Nat) (d : List α) : Prop := ∀ i j, a ≤ i → i < j → j < b → lt (el d j) (el d i) = false
end Go.Vs

namespace Go.Vs

theorem w64_pred {j : Nat} (h : 1 ≤ j) (h2 : j < 4000000000000000000) : w64 ((j : Int) - 1) = ((j - 1 : Nat) : Int) := by rw [w64_id (by omega) (by omega)]; omega

section
variable {α : Type} {cmp : α → α → Option Int} {lt : α → α → Bool} {p : α → Prop}
theorem cmp_of (hc : CmpOk cmp lt p) {x y : α} (hx : p x) (hy : p y) : (cmp x y).bind (fun r => some (decide (r < 0))) = some (lt x y) := by
  obtain ⟨r, h1, h2⟩ := hc x y hx hy
  rw [h1, Option.bind_some, h2]
theorem cmp_ofn (hc : CmpOk cmp lt p) {x y : α} (hx : p x) (hy : p y) : (cmp x y).bind (fun r => some (!(decide (r < 0)))) = some (!lt x y) := by
  obtain ⟨r, h1, h2⟩ := hc x y hx hy
  rw [h1, Option.bind_some, h2]

end

section
variable {α : Type} [Inhabited α] {cmp : α → α → Option Int} {lt : α → α → Bool} {p : α → Prop}
theorem gidx_set {d : List α} {i j : Nat} {x : α} (hj : j < d.length) : gidx (d.set i x) (j : Int) = some (el (d.set i x) j) := gidx_el (by simpa using hj)
theorem swp_def (d : List α) (i j : Nat) : (d.set i (el d j)).set j (el d i) = swp d i j := rfl
theorem ins_inner (hc : CmpOk cmp lt p) (hl : Lin lt p) {a i : Nat} {d0 : List α} (hi : i < d0.length) (hn : d0.length < 1000000000) (hp : AllP p d0) : ∀ (d : List α) (j : Nat), a ≤ j → j ≤ i → PermR a (i + 1) d0 d →
    (∀ x y, a ≤ x → x < y → y ≤ i → x ≠ j → y ≠ j → lt (el d y) (el d x) = false) → (∀ y, j < y → y ≤ i → lt (el d y) (el d j) = false) →
    ∃ d', loopM (fun (s7 : (List α) × (Int)) => Option.bind ((bif decide ((a : Int) < s7.2) then
  (gidx s7.1 s7.2).bind fun x12 =>
  (gidx s7.1 (w64 (s7.2 - 1))).bind fun x19 =>
  (cmp x12 x19).bind fun r27 =>
  some (decide (r27 < 0))
 else
  some false)) fun o10 =>
  (bif o10 then
  (gidx s7.1 (w64 (s7.2 - 1))).bind fun x34 =>
  (gidx s7.1 s7.2).bind fun x41 =>
  (gidx s7.1 s7.2).bind fun x48 =>
  (gidx (s7.1.set s7.2.toNat x34) (w64 (s7.2 - 1))).bind fun x54 =>
  some (.inl (((s7.1.set s7.2.toNat x34).set (w64 (s7.2 - 1)).toNat x41), w64 (s7.2 - 1)))
 else
  some (.inr s7.1))) (d, (j : Int)) = some d' ∧ PermR a (i + 1) d0 d' ∧ Asc lt a (i + 1) d' := by
  intro d j
  induction j generalizing d with
  | zero =>
    intro ha _ hP h1 h2
    have e1 : decide ((a : Int) < ((0 : Nat) : Int)) = false := decide_eq_false (by omega)
    rw [loopM_eq]
    simp only [e1, cond_false, Option.bind_some, selim]
    refine ⟨d, rfl, hP, fun x y hx hxy hy => ?_⟩
    by_cases hx0 : x = 0
    · subst hx0; exact h2 y hxy (by omega)
    · exact h1 x y hx hxy (by omega) hx0 (by omega)
  | succ j ih =>
    intro ha hji hP h1 h2
    have hlen := hP.len
    have hpd := hp.perm hP.perm
    have ej : w64 (((j + 1 : Nat) : Int) - 1) = (j : Int) := w64_pred (by omega) (by omega)
    rw [loopM_eq]
    by_cases haj : a < j + 1
    · have e1 : decide ((a : Int) < ((j + 1 : Nat) : Int)) = true := decide_eq_true (by omega)
      simp only [e1, cond_true, ej, gidx_el (d := d) (i := j + 1) (by omega), gidx_el (d := d) (i := j) (by omega), Option.bind_some, cmp_of hc (hpd (j + 1) (by omega)) (hpd j (by omega))]
      cases hlt : lt (el d (j + 1)) (el d j) with
      | true =>
        simp only [cond_true, gidx_set (d := d) (i := j + 1) (j := j) (x := el d j) (by omega), Option.bind_some, Int.toNat_natCast, swp_def, selim]
        have sw : ∀ k, el (swp d (j + 1) j) k = if k = j then el d (j + 1) else if k = j + 1 then el d j else el d k := fun k => el_swp (by omega) (by omega)
        refine ih (swp d (j + 1) j) (by omega) (by omega) (hP.trans (PermR.swp (by omega) (by omega) (by omega) (by omega) (by omega))) ?_ ?_
        · intro x y hx hxy hy hxj hyj
          rw [sw, sw, if_neg hyj, if_neg hxj]
          by_cases hyj1 : y = j + 1
          · subst hyj1
            rw [if_pos rfl, if_neg (by omega)]
            exact h1 x j hx (by omega) (by omega) (by omega) (by omega)
          · rw [if_neg hyj1]
            by_cases hxj1 : x = j + 1
            · subst hxj1
              rw [if_pos rfl]
              exact h1 j y (by omega) (by omega) hy (by omega) hyj1
            · rw [if_neg hxj1]
              exact h1 x y hx hxy hy hxj1 hyj1
        · intro y hy hyi
          rw [sw, sw, if_neg (by omega), if_pos rfl]
          by_cases hyj1 : y = j + 1
          · subst hyj1
            rw [if_pos rfl]
            exact hl.asymm (hpd _ (by omega)) (hpd _ (by omega)) hlt
          · rw [if_neg hyj1]
            exact h2 y (by omega) hyi
      | false =>
        simp only [cond_false, selim]
        refine ⟨d, rfl, hP, fun x y hx hxy hy => ?_⟩
        by_cases hxj : x = j + 1
        · subst hxj; exact h2 y hxy (by omega)
        · by_cases hyj : y = j + 1
          · subst hyj
            by_cases hxj2 : x = j
            · subst hxj2; exact hlt
            · exact hl.ntrans (hpd _ (by omega)) (hpd j (by omega)) (hpd _ (by omega)) hlt (h1 x j hx (by omega) (by omega) hxj (by omega))
          · exact h1 x y hx hxy (by omega) hxj hyj
    · have e1 : decide ((a : Int) < ((j + 1 : Nat) : Int)) = false := decide_eq_false (by omega)
      have : a = j + 1 := by omega
      simp only [e1, cond_false, Option.bind_some, selim]
      refine ⟨d, rfl, hP, fun x y hx hxy hy => ?_⟩
      by_cases hx0 : x = j + 1
      · subst hx0; exact h2 y hxy (by omega)
      · exact h1 x y hx hxy (by omega) hx0 (by omega)
theorem ins_ok (hc : CmpOk cmp lt p) (hl : Lin lt p) {d : List α} {a b : Nat} (hab : a ≤ b) (hb : b ≤ d.length) (hn : d.length < 1000000000) (hp : AllP p d) :
    ∃ d', G.ins cmp d (a : Int) (b : Int) = some d' ∧ PermR a b d d' ∧ Asc lt a b d' := by
  unfold G.ins
  have e0 : w64 ((a : Int) + 1) = ((a + 1 : Nat) : Int) := w64_succ (by omega)
  rw [e0]
  have key : ∀ m i : Nat, ∀ d' : List α, i + m = max b (a + 1) → a < i → PermR a b d d' → Asc lt a i d' → ∃ r, loopM (fun (s2 : (List α) × (Int)) => (bif decide (s2.2 < (b : Int)) then
  Option.bind (loopM (fun (s7 : (List α) × (Int)) => Option.bind ((bif decide ((a : Int) < s7.2) then
  (gidx s7.1 s7.2).bind fun x12 =>
  (gidx s7.1 (w64 (s7.2 - 1))).bind fun x19 =>
  (cmp x12 x19).bind fun r27 =>
  some (decide (r27 < 0))
 else
  some false)) fun o10 =>
  (bif o10 then
  (gidx s7.1 (w64 (s7.2 - 1))).bind fun x34 =>
  (gidx s7.1 s7.2).bind fun x41 =>
  (gidx s7.1 s7.2).bind fun x48 =>
  (gidx (s7.1.set s7.2.toNat x34) (w64 (s7.2 - 1))).bind fun x54 =>
  some (.inl (((s7.1.set s7.2.toNat x34).set (w64 (s7.2 - 1)).toNat x41), w64 (s7.2 - 1)))
 else
  some (.inr s7.1))) s2) fun o6 =>
  some (.inl (o6, w64 (s2.2 + 1)))
 else
  some (.inr s2.1))) (d', (i : Int)) = some r ∧ PermR a b d r ∧ Asc lt a b r := by
    intro m
    induction m with
    | zero =>
      intro i d' hm hi hP hA
      have e1 : decide ((i : Int) < (b : Int)) = false := decide_eq_false (by omega)
      rw [loopM_eq]
      simp only [e1, cond_false, Option.bind_some, selim]
      exact ⟨d', rfl, hP, fun x y hx hxy hy => hA x y hx hxy (by omega)⟩
    | succ m ih =>
      intro i d' hm hi hP hA
      have hlen := hP.len
      have hib : i < b := by omega
      have e1 : decide ((i : Int) < (b : Int)) = true := decide_eq_true (by omega)
      rw [loopM_eq]
      simp only [e1, cond_true]
      obtain ⟨d2, h1, h2, h3⟩ := ins_inner hc hl (a := a) (i := i) (d0 := d') (by omega) (by omega) (hp.perm hP.perm) d' i (by omega) (Nat.le_refl _) (PermR.refl _)
        (fun x y hx hxy hy hxi hyi => hA x y hx hxy (by omega)) (fun y h1 h2 => by omega)
      rw [h1]
      simp only [Option.bind_some, selim, w64_succ (i := i) (by omega)]
      exact ih (i + 1) d2 (by omega) (by omega) (hP.trans (h2.mono (Nat.le_refl _) (by omega))) h3
  obtain ⟨r, h1, h2, h3⟩ := key (max b (a + 1) - (a + 1)) (a + 1) d (by omega) (by omega) (PermR.refl _) (fun x y hx hxy hy => by omega)
  rw [h1]
  exact ⟨r, rfl, h2, h3⟩
end
end Go.Vs

namespace Go.Vs

theorem len_small : ∀ n : Nat, n ≤ 16 → ∃ l : Nat, M.math_bits_Len (wk .u64 (n : Int)) = some (l : Int) ∧ n ≤ l + 11 := by
  intro n hn
  match n, hn with
  | 0, _ => exact ⟨0, by rfl, by omega⟩
  | 1, _ => exact ⟨1, by rfl, by omega⟩
  | 2, _ => exact ⟨2, by rfl, by omega⟩
  | 3, _ => exact ⟨2, by rfl, by omega⟩
  | 4, _ => exact ⟨3, by rfl, by omega⟩
  | 5, _ => exact ⟨3, by rfl, by omega⟩
  | 6, _ => exact ⟨3, by rfl, by omega⟩
  | 7, _ => exact ⟨3, by rfl, by omega⟩
  | 8, _ => exact ⟨4, by rfl, by omega⟩
  | 9, _ => exact ⟨4, by rfl, by omega⟩
  | 10, _ => exact ⟨4, by rfl, by omega⟩
  | 11, _ => exact ⟨4, by rfl, by omega⟩
  | 12, _ => exact ⟨4, by rfl, by omega⟩
  | 13, _ => exact ⟨4, by rfl, by omega⟩
  | 14, _ => exact ⟨4, by rfl, by omega⟩
  | 15, _ => exact ⟨4, by rfl, by omega⟩
  | 16, _ => exact ⟨5, by rfl, by omega⟩
  | k + 17, h => exact absurd h (by omega)
theorem npt_small : ∀ n : Nat, 8 ≤ n → n ≤ 16 → ∃ m : Nat, M.slices_nextPowerOfTwo (n : Int) = some (m : Int) ∧ 1 ≤ m ∧ m ≤ 2 * n := by
  intro n h8 hn
  rcases (show n = 8 ∨ n = 9 ∨ n = 10 ∨ n = 11 ∨ n = 12 ∨ n = 13 ∨ n = 14 ∨ n = 15 ∨ n = 16 by omega) with rfl | rfl | rfl | rfl | rfl | rfl | rfl | rfl | rfl
  all_goals first | exact ⟨16, by rfl, by omega, by omega⟩ | exact ⟨32, by rfl, by omega, by omega⟩
theorem gand_le {x : Int} {m : Nat} (h1 : 1 ≤ m) (h2 : m ≤ 1000) : ∃ k : Nat, wk .i64 (gandk .u64 x (wk .u64 ((m : Int) - 1))) = (k : Int) ∧ k < m := by
  have e1 : wk .u64 ((m : Int) - 1) = ((m - 1 : Nat) : Int) := by rw [wk_u64 (by omega) (by omega)]; omega
  rw [e1]
  have e2 : (BitVec.ofInt 64 ((m - 1 : Nat) : Int)).toNat = m - 1 := by simp only [BitVec.toNat_ofInt]; omega
  have e3 : (BitVec.ofInt 64 x &&& BitVec.ofInt 64 ((m - 1 : Nat) : Int)).toNat ≤ m - 1 := by
    rw [BitVec.toNat_and]
    have := Nat.and_le_right (n := (BitVec.ofInt 64 x).toNat) (m := (BitVec.ofInt 64 ((m - 1 : Nat) : Int)).toNat)
    omega
  refine ⟨(BitVec.ofInt 64 x &&& BitVec.ofInt 64 ((m - 1 : Nat) : Int)).toNat, ?_, by omega⟩
  unfold gandk
  show wk .i64 (wk .u64 (((BitVec.ofInt 64 x &&& BitVec.ofInt 64 ((m - 1 : Nat) : Int)).toNat : Nat) : Int)) = _
  rw [wk_u64 (by omega) (by omega), wk_i64, w64_id (by omega) (by omega)]

section
variable {α : Type} [Inhabited α] {cmp : α → α → Option Int} {lt : α → α → Bool} {p : α → Prop}
theorem rev_ok {d : List α} {a b : Nat} (hab : a < b) (hb : b ≤ d.length) (hn : d.length < 1000000000) : ∃ d', G.rev cmp d (a : Int) (b : Int) = some d' ∧ PermR a b d d' := by
  unfold G.rev
  rw [w64_pred (j := b) (by omega) (by omega)]
  have key := loopM_ind (f := fun (s2 : (List α) × (Int) × (Int)) => (bif decide (s2.2.1 < s2.2.2) then
  (gidx s2.1 s2.2.2).bind fun x6 =>
  (gidx s2.1 s2.2.1).bind fun x13 =>
  (gidx s2.1 s2.2.1).bind fun x20 =>
  (gidx (s2.1.set s2.2.1.toNat x6) s2.2.2).bind fun x26 =>
  some (.inl (((s2.1.set s2.2.1.toNat x6).set s2.2.2.toNat x13), w64 (s2.2.1 + 1), w64 (s2.2.2 - 1)))
 else
  some (.inr s2.1))) (fun s => ∃ (d' : List α) (i j : Nat), s = (d', (i : Int), (j : Int)) ∧ PermR a b d d' ∧ a ≤ i ∧ j < b ∧ i ≤ j + 1) (fun s => (s.2.2 - s.2.1).toNat) (fun d' => PermR a b d d') ?_ (d, (a : Int), ((b - 1 : Nat) : Int)) ⟨d, a, b - 1, rfl, PermR.refl _, Nat.le_refl _, by omega, by omega⟩
  · obtain ⟨r, h1, h2⟩ := key
    rw [h1]; exact ⟨r, rfl, h2⟩
  · rintro _ ⟨d', i, j, rfl, hP, h1, h2, h3⟩
    have hlen := hP.len
    by_cases hij : i < j
    · left
      have e1 : decide ((i : Int) < (j : Int)) = true := decide_eq_true (by omega)
      refine ⟨(swp d' i j, ((i + 1 : Nat) : Int), ((j - 1 : Nat) : Int)), ?_, ⟨_, i + 1, j - 1, rfl, hP.trans (PermR.swp h1 (by omega) (by omega) h2 (by omega)), by omega, by omega, by omega⟩, by simp only; omega⟩
      simp only [e1, cond_true, gidx_el (d := d') (i := j) (by omega), gidx_el (d := d') (i := i) (by omega), Option.bind_some, Int.toNat_natCast, gidx_set (d := d') (i := i) (j := j) (x := el d' j) (by omega), swp_def, w64_succ (i := i) (by omega), w64_pred (j := j) (by omega) (by omega)]
    · right
      have e1 : decide ((i : Int) < (j : Int)) = false := decide_eq_false (by omega)
      exact ⟨d', by simp only [e1, cond_false], hP⟩
theorem o2_ok (hc : CmpOk cmp lt p) {d : List α} {x y : Nat} (hx : x < d.length) (hy : y < d.length) (hp : AllP p d) (s : Int) : ∃ (u v : Nat) (s' : Int), G.o2 cmp d (x : Int) (y : Int) s = some ((u : Int), (v : Int), s') ∧ ((u = x ∧ v = y) ∨ (u = y ∧ v = x)) := by
  unfold G.o2
  obtain ⟨r, h1, -⟩ := hc (el d y) (el d x) (hp y hy) (hp x hx)
  simp only [gidx_el hx, gidx_el hy, Option.bind_some, h1]
  cases decide (r < 0) with
  | true => exact ⟨y, x, _, rfl, .inr ⟨rfl, rfl⟩⟩
  | false => exact ⟨x, y, _, rfl, .inl ⟨rfl, rfl⟩⟩
theorem med_ok (hc : CmpOk cmp lt p) {d : List α} {x y z : Nat} (hx : x < d.length) (hy : y < d.length) (hz : z < d.length) (hp : AllP p d) (s : Int) : ∃ (u : Nat) (s' : Int), G.med cmp d (x : Int) (y : Int) (z : Int) s = some ((u : Int), s') ∧ (u = x ∨ u = y ∨ u = z) := by
  unfold G.med
  obtain ⟨u1, v1, s1, h1, k1⟩ := o2_ok hc hx hy hp s
  have hu1 : u1 < d.length := by omega
  have hv1 : v1 < d.length := by omega
  obtain ⟨u2, v2, s2, h2, k2⟩ := o2_ok hc hv1 hz hp s1
  have hu2 : u2 < d.length := by omega
  obtain ⟨u3, v3, s3, h3, k3⟩ := o2_ok hc hu1 hu2 hp s2
  simp only [h1, h2, h3, Option.bind_some]
  exact ⟨v3, s3, rfl, by omega⟩
theorem piv_ok (hc : CmpOk cmp lt p) {d : List α} {a b : Nat} (hab : a + 8 ≤ b) (hb : b ≤ d.length) (h50 : b < a + 50) (hn : d.length < 1000000000) (hp : AllP p d) : ∃ (v : Nat) (h : Int), G.piv cmp d (a : Int) (b : Int) = some ((v : Int), h) ∧ a ≤ v ∧ v < b := by
  unfold G.piv
  obtain ⟨l, rfl⟩ : ∃ l, b = a + l := ⟨b - a, by omega⟩
  have e0 : w64 (((a + l : Nat) : Int) - (a : Int)) = (l : Int) := by rw [w64_id (by omega) (by omega)]; omega
  have e8 : decide ((8 : Int) ≤ (l : Int)) = true := decide_eq_true (by omega)
  have e50 : decide ((50 : Int) ≤ (l : Int)) = false := decide_eq_false (by omega)
  have et : w64 ((l : Int).tdiv 4) = ((l / 4 : Nat) : Int) := by rw [Int.tdiv_eq_ediv_of_nonneg (by omega), w64_id (by omega) (by omega)]; omega
  have ei : ∀ k : Nat, k ≤ 3 → w64 ((a : Int) + w64 (((l / 4 : Nat) : Int) * (k : Int))) = ((a + l / 4 * k : Nat) : Int) := by
    intro k hk
    have hk4 : l / 4 * k ≤ 3 * (l / 4) := by
      have := Nat.mul_le_mul_left (l / 4) hk
      omega
    have e : (((l / 4 : Nat) : Int) * (k : Int)) = ((l / 4 * k : Nat) : Int) := by simp
    rw [e]
    generalize l / 4 * k = q at *
    rw [w64_id (n := (q : Int)) (by omega) (by omega), w64_id (by omega) (by omega)]; omega
  have i1 := ei 1 (by omega)
  have i2 := ei 2 (by omega)
  have i3 := ei 3 (by omega)
  simp only [Int.cast_ofNat_Int] at i1 i2 i3
  simp only [e0, e8, cond_true, e50, cond_false, Option.bind_some, et, i1, i2, i3]
  obtain ⟨u, s', h1, h2⟩ := med_ok hc (d := d) (x := a + l / 4 * 1) (y := a + l / 4 * 2) (z := a + l / 4 * 3) (by omega) (by omega) (by omega) hp 0
  simp only [h1, Option.bind_some]
  have hu : a ≤ u ∧ u < a + l := by omega
  by_cases hs : s' = 0
  · exact ⟨u, 1, by simp [hs], hu⟩
  · by_cases hs2 : s' = 12
    · exact ⟨u, 2, by simp [hs2], hu⟩
    · exact ⟨u, 0, by simp [beq_eq_false_iff_ne.2 hs, beq_eq_false_iff_ne.2 hs2], hu⟩
theorem brk_ok {d : List α} {a b : Nat} (hab : a + 8 ≤ b) (hb : b ≤ d.length) (h16 : b ≤ a + 16) (hn : d.length < 1000000000) : ∃ d', G.brk cmp d (a : Int) (b : Int) = some d' ∧ PermR a b d d' := by
  unfold G.brk
  obtain ⟨l, rfl⟩ : ∃ l, b = a + l := ⟨b - a, by omega⟩
  have e0 : w64 (((a + l : Nat) : Int) - (a : Int)) = (l : Int) := by rw [w64_id (by omega) (by omega)]; omega
  have e8 : decide ((8 : Int) ≤ (l : Int)) = true := decide_eq_true (by omega)
  have et : w64 ((l : Int).tdiv 4) = ((l / 4 : Nat) : Int) := by rw [Int.tdiv_eq_ediv_of_nonneg (by omega), w64_id (by omega) (by omega)]; omega
  have e2 : w64 (((l / 4 : Nat) : Int) * 2) = ((l / 4 * 2 : Nat) : Int) := by rw [w64_id (by omega) (by omega)]; omega
  have e3 : w64 ((a : Int) + ((l / 4 * 2 : Nat) : Int)) = ((a + l / 4 * 2 : Nat) : Int) := by rw [w64_id (by omega) (by omega)]; omega
  obtain ⟨m, hm, hm1, hm2⟩ := npt_small l (by omega) (by omega)
  simp only [e0, e8, cond_true, hm, Option.bind_some, et, e2, e3, w64_succ (i := a + l / 4 * 2) (by omega), w64_pred (j := a + l / 4 * 2) (by omega) (by omega)]
  generalize wk .u64 (l : Int) = rnd
  have key := loopM_ind (f := fun (s10 : (List α) × (Int) × (Int)) => (bif decide (s10.2.2 ≤ ((a + l / 4 * 2 + 1 : Nat) : Int)) then
  (M.slices_xorshift_Next s10.2.1).bind fun r14 =>
  Option.bind ((bif decide ((l : Int) ≤ (wk .i64 (gandk .u64 r14.1 (wk .u64 ((m : Int) - 1))))) then
  some (w64 ((wk .i64 (gandk .u64 r14.1 (wk .u64 ((m : Int) - 1)))) - (l : Int)))
 else
  some (wk .i64 (gandk .u64 r14.1 (wk .u64 ((m : Int) - 1)))))) fun o18 =>
  (gidx s10.1 (w64 ((a : Int) + o18))).bind fun x21 =>
  (gidx s10.1 s10.2.2).bind fun x28 =>
  (gidx s10.1 s10.2.2).bind fun x35 =>
  (gidx (s10.1.set s10.2.2.toNat x21) (w64 ((a : Int) + o18))).bind fun x41 =>
  some (.inl (((s10.1.set s10.2.2.toNat x21).set (w64 ((a : Int) + o18)).toNat x28), r14.2, w64 (s10.2.2 + 1)))
 else
  some (.inr s10.1))) (fun s => ∃ (d' : List α) (i : Nat), s.1 = d' ∧ s.2.2 = (i : Int) ∧ PermR a (a + l) d d' ∧ a ≤ i ∧ i ≤ a + l / 4 * 2 + 2) (fun s => (((a + l / 4 * 2 + 2 : Nat) : Int) - s.2.2).toNat) (fun d' => PermR a (a + l) d d') ?_ (d, rnd, ((a + l / 4 * 2 - 1 : Nat) : Int)) ⟨d, a + l / 4 * 2 - 1, rfl, rfl, PermR.refl _, by omega, by omega⟩
  · obtain ⟨r, h1, h2⟩ := key
    rw [h1]; exact ⟨r, rfl, h2⟩
  · rintro ⟨s1, s2, s3⟩ ⟨d', i, h, h', hP, h1, h2⟩
    simp only at h h'
    subst h h'
    have hlen := hP.len
    by_cases hij : i ≤ a + l / 4 * 2 + 1
    · left
      have e1 : decide ((i : Int) ≤ ((a + l / 4 * 2 + 1 : Nat) : Int)) = true := decide_eq_true (by omega)
      obtain ⟨r14, hr⟩ : ∃ r, M.slices_xorshift_Next s2 = some r := ⟨_, rfl⟩
      obtain ⟨k, hk, hkm⟩ := gand_le (x := r14.1) hm1 (by omega)
      obtain ⟨o, ho, hol⟩ : ∃ o : Nat, (bif decide ((l : Int) ≤ (k : Int)) then some (w64 ((k : Int) - (l : Int))) else some (k : Int)) = some (o : Int) ∧ o < l := by
        by_cases hc : l ≤ k
        · have : decide ((l : Int) ≤ (k : Int)) = true := decide_eq_true (by omega)
          rw [this]
          exact ⟨k - l, by simp only [cond_true]; rw [w64_id (by omega) (by omega)]; congr 1; omega, by omega⟩
        · have : decide ((l : Int) ≤ (k : Int)) = false := decide_eq_false (by omega)
          rw [this]
          exact ⟨k, rfl, by omega⟩
      have eo : w64 ((a : Int) + (o : Int)) = ((a + o : Nat) : Int) := by rw [w64_id (by omega) (by omega)]; omega
      refine ⟨(swp s1 i (a + o), r14.2, ((i + 1 : Nat) : Int)), ?_, ⟨_, i + 1, rfl, rfl, hP.trans (PermR.swp h1 (by omega) (by omega) (by omega) (by omega)), by omega, by omega⟩, by simp only; omega⟩
      simp only [e1, cond_true, hr, Option.bind_some, hk, ho, eo, gidx_el (d := s1) (i := a + o) (by omega), gidx_el (d := s1) (i := i) (by omega), Int.toNat_natCast, gidx_set (d := s1) (i := i) (j := a + o) (x := el s1 (a + o)) (by omega), swp_def, w64_succ (i := i) (by omega)]
    · right
      have e1 : decide ((i : Int) ≤ ((a + l / 4 * 2 + 1 : Nat) : Int)) = false := decide_eq_false (by omega)
      exact ⟨s1, by simp only [e1, cond_false], hP⟩
end
end Go.Vs

namespace Go.Vs

theorem loop_ex {S R U : Type} {f : S → Option (S ⊕ R)} (J : S → Prop) (μ : S → Nat) (Z : R → Prop) (step : ∀ s, J s → (∃ s', f s = some (.inl s') ∧ J s' ∧ μ s' < μ s) ∨ ∃ r, f s = some (.inr r) ∧ Z r) {s : S} (hs : J s) {c : R → Option U} {P : U → Prop}
    (hk : ∀ r, Z r → ∃ u, c r = some u ∧ P u) : ∃ u, (loopM f s).bind c = some u ∧ P u := by
  obtain ⟨r, h1, h2⟩ := loopM_ind J μ Z step s hs
  obtain ⟨u, h3, h4⟩ := hk r h2
  exact ⟨u, by rw [h1]; exact h3, h4⟩

section
variable {α : Type} [Inhabited α] {cmp : α → α → Option Int} {lt : α → α → Bool} {p : α → Prop}

theorem scan_up {d : List α} {q : α → Bool} {j : Nat} {f : Int → Option (Int ⊕ Int)} (hf : ∀ i : Nat, i ≤ j → i < d.length → f (i : Int) = some (if q (el d i) = true then .inl ((i + 1 : Nat) : Int) else .inr (i : Int))) (hf2 : ∀ i : Nat, j < i → f (i : Int) = some (.inr (i : Int))) (hj : j < d.length) :
    ∀ (m i0 : Nat), i0 + m = j + 1 → ∃ i : Nat, loopM f (i0 : Int) = some (i : Int) ∧ i0 ≤ i ∧ i ≤ j + 1 ∧ (∀ k, i0 ≤ k → k < i → q (el d k) = true) ∧ (i ≤ j → q (el d i) = false) := by
  intro m
  induction m with
  | zero =>
    intro i0 h
    rw [loopM_eq, hf2 i0 (by omega)]
    exact ⟨i0, rfl, Nat.le_refl _, by omega, fun k h1 h2 => by omega, fun h => by omega⟩
  | succ m ih =>
    intro i0 h
    rw [loopM_eq, hf i0 (by omega) (by omega)]
    cases hq : q (el d i0) with
    | false => exact ⟨i0, by rw [if_neg (by simp)]; rfl, Nat.le_refl _, by omega, fun k h1 h2 => by omega, fun _ => hq⟩
    | true =>
      rw [if_pos rfl]
      obtain ⟨i, h1, h2, h3, h4, h5⟩ := ih (i0 + 1) (by omega)
      refine ⟨i, h1, by omega, h3, fun k hk1 hk2 => ?_, h5⟩
      by_cases hk : k = i0
      · subst hk; exact hq
      · exact h4 k (by omega) hk2
theorem scan_down {d : List α} {q : α → Bool} {i : Nat} {f : Int → Option (Int ⊕ Int)} (hi : 1 ≤ i) (hf : ∀ j : Nat, i ≤ j → j < d.length → f (j : Int) = some (if q (el d j) = true then .inl ((j - 1 : Nat) : Int) else .inr (j : Int))) (hf2 : ∀ j : Nat, j < i → f (j : Int) = some (.inr (j : Int))) :
    ∀ (j0 : Nat), j0 < d.length → i ≤ j0 + 1 → ∃ j : Nat, loopM f (j0 : Int) = some (j : Int) ∧ j ≤ j0 ∧ i ≤ j + 1 ∧ (∀ k, j < k → k ≤ j0 → q (el d k) = true) ∧ (i ≤ j → q (el d j) = false) := by
  intro j0
  induction j0 with
  | zero =>
    intro _ h
    rw [loopM_eq, hf2 0 (by omega)]
    exact ⟨0, rfl, Nat.le_refl _, by omega, fun k h1 h2 => by omega, fun h => by omega⟩
  | succ j0 ih =>
    intro hj h
    by_cases hij : i ≤ j0 + 1
    · rw [loopM_eq, hf (j0 + 1) hij hj]
      cases hq : q (el d (j0 + 1)) with
      | false => exact ⟨j0 + 1, by rw [if_neg (by simp)]; rfl, Nat.le_refl _, by omega, fun k h1 h2 => by omega, fun _ => hq⟩
      | true =>
        rw [if_pos rfl]
        obtain ⟨j, h1, h2, h3, h4, h5⟩ := ih (by omega) hij
        refine ⟨j, h1, by omega, h3, fun k hk1 hk2 => ?_, h5⟩
        by_cases hk : k = j0 + 1
        · subst hk; exact hq
        · exact h4 k hk1 (by omega)
    · rw [loopM_eq, hf2 (j0 + 1) (by omega)]
      exact ⟨j0 + 1, rfl, Nat.le_refl _, by omega, fun k h1 h2 => by omega, fun h => by omega⟩

structure Parted (lt : α → α → Bool) (a b : Nat) (d : List α) (m : Nat) (d' : List α) : Prop where
  ge : a ≤ m
  le : m < b
  perm : PermR a b d d'
  low : ∀ i, a ≤ i → i < m → lt (el d' i) (el d' m) = true
  high : ∀ i, m < i → i < b → lt (el d' i) (el d' m) = false
theorem parted_of {d d2 : List α} {a b m : Nat} (hP : PermR a b d d2) (ha : a ≤ m) (hm : m < b) (hb : b ≤ d.length) (h1 : ∀ k, a + 1 ≤ k → k ≤ m → lt (el d2 k) (el d2 a) = true) (h2 : ∀ k, m < k → k < b → lt (el d2 k) (el d2 a) = false) : Parted lt a b d m (swp d2 m a) := by
  have hlen := hP.len
  have sw : ∀ k, el (swp d2 m a) k = if k = a then el d2 m else if k = m then el d2 a else el d2 k := fun k => el_swp (by omega) (by omega)
  have hm' : el (swp d2 m a) m = el d2 a := by
    rw [sw]
    by_cases e : m = a
    · subst e; simp
    · rw [if_neg e, if_pos rfl]
  refine ⟨ha, hm, hP.trans (PermR.swp ha hm (Nat.le_refl _) (by omega) (by omega)), fun i hi1 hi2 => ?_, fun i hi1 hi2 => ?_⟩
  · rw [hm', sw]
    by_cases e : i = a
    · subst e; rw [if_pos rfl]; exact h1 m (by omega) (Nat.le_refl _)
    · rw [if_neg e, if_neg (by omega)]; exact h1 i (by omega) (by omega)
  · rw [hm', sw, if_neg (by omega), if_neg (by omega)]
    exact h2 i hi1 hi2
theorem prt_ok (hc : CmpOk cmp lt p) {d : List α} {a b pv : Nat} (hpa : a ≤ pv) (hpb : pv < b) (hb : b ≤ d.length) (hab : a + 1 < b) (hn : d.length < 1000000000) (hp : AllP p d) :
    ∃ r, G.prt cmp d (a : Int) (b : Int) (pv : Int) = some r ∧ ∃ (m : Nat) (x : Bool) (d' : List α), r = ((m : Int), x, d') ∧ Parted lt a b d m d' := by
  unfold G.prt
  simp only [gidx_el (d := d) (i := pv) (by omega), gidx_el (d := d) (i := a) (by omega), Option.bind_some, gidx_set (d := d) (i := a) (j := pv) (x := el d pv) (by omega), Int.toNat_natCast, swp_def, w64_pred (j := b) (by omega) (by omega), w64_succ (i := a) (by omega)]
  have hP1 : PermR a b d (swp d a pv) := PermR.swp (Nat.le_refl _) (by omega) hpa hpb hb
  generalize swp d a pv = d1 at hP1
  have hl1 := hP1.len
  have hp1 := hp.perm hP1.perm
  have up : ∀ (d2 : List α), PermR a b d d2 → ∀ (j i0 : Nat), a + 1 ≤ i0 → i0 ≤ j + 1 → j < b → ∃ i : Nat, loopM (fun (s141 : (Int)) => Option.bind ((bif decide (s141 ≤ (j : Int)) then
  (gidx d2 s141).bind fun x145 =>
  (gidx d2 (a : Int)).bind fun x152 =>
  (cmp x145 x152).bind fun r160 =>
  some (decide (r160 < 0))
 else
  some false)) fun o143 =>
  (bif o143 then
  some (.inl (w64 (s141 + 1)))
 else
  some (.inr s141))) (i0 : Int) = some (i : Int) ∧ i0 ≤ i ∧ i ≤ j + 1 ∧ (∀ k, i0 ≤ k → k < i → lt (el d2 k) (el d2 a) = true) ∧ (i ≤ j → lt (el d2 i) (el d2 a) = false) := by
    intro d2 hP j i0 h1 h2 h3
    have hl2 := hP.len
    have hp2 := hp.perm hP.perm
    refine scan_up (q := fun x => lt x (el d2 a)) (d := d2) (fun i hij hil => ?_) (fun i hij => ?_) (by omega) (j + 1 - i0) i0 (by omega)
    · have e1 : decide ((i : Int) ≤ (j : Int)) = true := decide_eq_true (by omega)
      simp only [e1, cond_true, gidx_el (d := d2) (i := i) hil, gidx_el (d := d2) (i := a) (by omega), Option.bind_some, cmp_of hc (hp2 i hil) (hp2 a (by omega)), w64_succ (i := i) (by omega)]
      cases lt (el d2 i) (el d2 a) <;> simp
    · have e1 : decide ((i : Int) ≤ (j : Int)) = false := decide_eq_false (by omega)
      simp only [e1, cond_false, Option.bind_some]
  have down : ∀ (d2 : List α), PermR a b d d2 → ∀ (i j0 : Nat), 1 ≤ i → i ≤ j0 + 1 → j0 < b → ∃ j : Nat, loopM (fun (s169 : (Int)) => Option.bind ((bif decide ((i : Int) ≤ s169) then
  (gidx d2 s169).bind fun x173 =>
  (gidx d2 (a : Int)).bind fun x180 =>
  (cmp x173 x180).bind fun r188 =>
  some (!(decide (r188 < 0)))
 else
  some false)) fun o171 =>
  (bif o171 then
  some (.inl (w64 (s169 - 1)))
 else
  some (.inr s169))) (j0 : Int) = some (j : Int) ∧ j ≤ j0 ∧ i ≤ j + 1 ∧ (∀ k, j < k → k ≤ j0 → (!lt (el d2 k) (el d2 a)) = true) ∧ (i ≤ j → (!lt (el d2 j) (el d2 a)) = false) := by
    intro d2 hP i j0 h1 h2 h3
    have hl2 := hP.len
    have hp2 := hp.perm hP.perm
    refine scan_down (q := fun x => !lt x (el d2 a)) (d := d2) h1 (fun j hij hjl => ?_) (fun j hij => ?_) j0 (by omega) h2
    · have e1 : decide ((i : Int) ≤ (j : Int)) = true := decide_eq_true (by omega)
      simp only [e1, cond_true, gidx_el (d := d2) (i := j) hjl, gidx_el (d := d2) (i := a) (by omega), Option.bind_some, cmp_ofn hc (hp2 j hjl) (hp2 a (by omega)), w64_pred (j := j) (by omega) (by omega)]
      cases lt (el d2 j) (el d2 a) <;> simp
    · have e1 : decide ((i : Int) ≤ (j : Int)) = false := decide_eq_false (by omega)
      simp only [e1, cond_false, Option.bind_some]
  obtain ⟨i, hi, i1, i2, i3, i4⟩ := up d1 hP1 (b - 1) (a + 1) (Nat.le_refl _) (by omega) (by omega)
  obtain ⟨j, hj, j1, j2, j3, j4⟩ := down d1 hP1 i (b - 1) (by omega) (by omega) (by omega)
  simp only [hi, hj, Option.bind_some]
  by_cases hji : j < i
  · have e1 : decide ((j : Int) < (i : Int)) = true := decide_eq_true (by omega)
    simp only [e1, cond_true, gidx_el (d := d1) (i := a) (by omega), gidx_el (d := d1) (i := j) (by omega), Option.bind_some, gidx_set (d := d1) (i := j) (j := a) (x := el d1 a) (by omega), Int.toNat_natCast, swp_def]
    refine ⟨_, rfl, j, true, _, rfl, parted_of hP1 (by omega) (by omega) hb (fun k h1 h2 => i3 k h1 (by omega)) (fun k h1 h2 => ?_)⟩
    have := j3 k h1 (by omega)
    simpa using this
  · have e1 : decide ((j : Int) < (i : Int)) = false := decide_eq_false (by omega)
    have hlt := i4 (by omega)
    have hgt : lt (el d1 j) (el d1 a) = true := by simpa using j4 (by omega)
    have hne : i ≠ j := by intro e; subst e; rw [hlt] at hgt; cases hgt
    simp only [e1, cond_false, gidx_el (d := d1) (i := i) (by omega), gidx_el (d := d1) (i := j) (by omega), Option.bind_some, gidx_set (d := d1) (i := i) (j := j) (x := el d1 j) (by omega), Int.toNat_natCast, swp_def, w64_succ (i := i) (by omega), w64_pred (j := j) (by omega) (by omega)]
    have sw1 : ∀ k, el (swp d1 i j) k = if k = j then el d1 i else if k = i then el d1 j else el d1 k := fun k => el_swp (by omega) (by omega)
    refine loop_ex (fun s => ∃ (d2 : List α) (i j : Nat), s = (d2, (i : Int), (j : Int)) ∧ PermR a b d d2 ∧ a + 1 ≤ i ∧ j < b ∧ i ≤ j + 1 ∧ (∀ k, a + 1 ≤ k → k < i → lt (el d2 k) (el d2 a) = true) ∧ (∀ k, j < k → k < b → lt (el d2 k) (el d2 a) = false)) (fun s => (s.2.2 + 1 - s.2.1).toNat)
      (fun r => ∃ (d2 : List α) (m : Nat), r = (d2, (m : Int)) ∧ PermR a b d d2 ∧ a ≤ m ∧ m < b ∧ (∀ k, a + 1 ≤ k → k ≤ m → lt (el d2 k) (el d2 a) = true) ∧ (∀ k, m < k → k < b → lt (el d2 k) (el d2 a) = false)) ?_
      ⟨swp d1 i j, i + 1, j - 1, rfl, hP1.trans (PermR.swp (by omega) (by omega) (by omega) (by omega) (by omega)), by omega, by omega, by omega, fun k h1 h2 => ?_, fun k h1 h2 => ?_⟩ ?_
    · rintro _ ⟨d2, i, j, rfl, hP, q1, q2, q3, q4, q5⟩
      have hl2 := hP.len
      obtain ⟨i', hi, i1, i2, i3, i4⟩ := up d2 hP j i q1 q3 q2
      obtain ⟨j', hj, j1, j2, j3, j4⟩ := down d2 hP i' j (by omega) (by omega) q2
      simp only [hi, hj, Option.bind_some]
      have lo : ∀ k, a + 1 ≤ k → k < i' → lt (el d2 k) (el d2 a) = true := fun k h1 h2 => by
        by_cases hk : k < i
        · exact q4 k h1 hk
        · exact i3 k (by omega) h2
      have hh : ∀ k, j' < k → k < b → lt (el d2 k) (el d2 a) = false := fun k h1 h2 => by
        by_cases hk : j < k
        · exact q5 k hk h2
        · have := j3 k h1 (by omega); simpa using this
      by_cases hji : j' < i'
      · right
        have e1 : decide ((j' : Int) < (i' : Int)) = true := decide_eq_true (by omega)
        refine ⟨(d2, (j' : Int)), by simp only [e1, cond_true], d2, j', rfl, hP, by omega, by omega, fun k h1 h2 => lo k h1 (by omega), hh⟩
      · left
        have e1 : decide ((j' : Int) < (i' : Int)) = false := decide_eq_false (by omega)
        have hlt := i4 (by omega)
        have hgt : lt (el d2 j') (el d2 a) = true := by simpa using j4 (by omega)
        have hne : i' ≠ j' := by intro e; subst e; rw [hlt] at hgt; cases hgt
        have sw : ∀ k, el (swp d2 i' j') k = if k = j' then el d2 i' else if k = i' then el d2 j' else el d2 k := fun k => el_swp (by omega) (by omega)
        refine ⟨(swp d2 i' j', ((i' + 1 : Nat) : Int), ((j' - 1 : Nat) : Int)), ?_, ⟨swp d2 i' j', i' + 1, j' - 1, rfl, hP.trans (PermR.swp (by omega) (by omega) (by omega) (by omega) (by omega)), by omega, by omega, by omega, fun k h1 h2 => ?_, fun k h1 h2 => ?_⟩, by simp only; omega⟩
        · simp only [e1, cond_false, gidx_el (d := d2) (i := i') (by omega), gidx_el (d := d2) (i := j') (by omega), Option.bind_some, gidx_set (d := d2) (i := i') (j := j') (x := el d2 j') (by omega), Int.toNat_natCast, swp_def, w64_succ (i := i') (by omega), w64_pred (j := j') (by omega) (by omega)]
        · rw [sw, sw, if_neg (by omega), if_neg (show a ≠ j' by omega), if_neg (show a ≠ i' by omega)]
          by_cases hk : k = i'
          · rw [if_pos hk]; exact hgt
          · rw [if_neg hk]; exact lo k h1 (by omega)
        · rw [sw, sw, if_neg (show a ≠ j' by omega), if_neg (show a ≠ i' by omega)]
          by_cases hk : k = j'
          · rw [if_pos hk]; exact hlt
          · rw [if_neg hk, if_neg (by omega)]; exact hh k (by omega) h2
    · rw [sw1, sw1, if_neg (by omega), if_neg (show a ≠ j by omega), if_neg (show a ≠ i by omega)]
      by_cases hk : k = i
      · rw [if_pos hk]; exact hgt
      · rw [if_neg hk]; exact i3 k h1 (by omega)
    · rw [sw1, sw1, if_neg (show a ≠ j by omega), if_neg (show a ≠ i by omega)]
      by_cases hk : k = j
      · rw [if_pos hk]; exact hlt
      · rw [if_neg hk, if_neg (by omega)]
        have := j3 k (by omega) (by omega)
        simpa using this
    · rintro _ ⟨d2, m, rfl, hP, q1, q2, q3, q4⟩
      have hl2 := hP.len
      simp only [gidx_el (d := d2) (i := a) (by omega), gidx_el (d := d2) (i := m) (by omega), Option.bind_some, gidx_set (d := d2) (i := m) (j := a) (x := el d2 a) (by omega), Int.toNat_natCast, swp_def]
      exact ⟨_, rfl, m, false, _, rfl, parted_of hP q1 q2 hb q3 q4⟩
end
end Go.Vs

namespace Go.Vs

section
variable {α : Type} [Inhabited α] {cmp : α → α → Option Int} {lt : α → α → Bool} {p : α → Prop}

theorem scan_idx {q : Nat → Bool} {b : Nat} {f : Int → Option (Int ⊕ Int)} (hf : ∀ i : Nat, 1 ≤ i → i < b → f (i : Int) = some (if q i = true then .inl ((i + 1 : Nat) : Int) else .inr (i : Int))) (hf2 : ∀ i : Nat, b ≤ i → f (i : Int) = some (.inr (i : Int))) :
    ∀ (m i0 : Nat), 1 ≤ i0 → i0 + m = b → ∃ i : Nat, loopM f (i0 : Int) = some (i : Int) ∧ i0 ≤ i ∧ i ≤ b ∧ (∀ k, i0 ≤ k → k < i → q k = true) := by
  intro m
  induction m with
  | zero =>
    intro i0 _ h
    rw [loopM_eq, hf2 i0 (by omega)]
    exact ⟨i0, rfl, Nat.le_refl _, by omega, fun k h1 h2 => by omega⟩
  | succ m ih =>
    intro i0 h1 h
    rw [loopM_eq, hf i0 h1 (by omega)]
    cases hq : q i0 with
    | false => exact ⟨i0, by rw [if_neg (by simp)]; rfl, Nat.le_refl _, by omega, fun k h1 h2 => by omega⟩
    | true =>
      rw [if_pos rfl]
      obtain ⟨i, h1, h2, h3, h4⟩ := ih (i0 + 1) (by omega) (by omega)
      refine ⟨i, h1, by omega, h3, fun k hk1 hk2 => ?_⟩
      by_cases hk : k = i0
      · subst hk; exact hq
      · exact h4 k (by omega) hk2
theorem asc_adj (hl : Lin lt p) {d : List α} {a b : Nat} (hb : b ≤ d.length) (hp : AllP p d) (h : ∀ k, a + 1 ≤ k → k < b → lt (el d k) (el d (k - 1)) = false) : Asc lt a b d := by
  intro i j hai hij hjb
  obtain ⟨m, rfl⟩ : ∃ m, j = i + 1 + m := ⟨j - i - 1, by omega⟩
  induction m with
  | zero => exact h (i + 1) (by omega) hjb
  | succ m ih => exact hl.ntrans (hp _ (by omega)) (hp (i + 1 + m) (by omega)) (hp _ (by omega)) (h (i + 1 + (m + 1)) (by omega) hjb) (ih (by omega) (by omega))
theorem par_ok (hc : CmpOk cmp lt p) (hl : Lin lt p) {d : List α} {a b : Nat} (hab : a + 1 ≤ b) (hb : b ≤ d.length) (h50 : b < a + 50) (hn : d.length < 1000000000) (hp : AllP p d) :
    ∃ x : Bool, G.par cmp d (a : Int) (b : Int) = some (x, d) ∧ (x = true → Asc lt a b d) := by
  unfold G.par
  have e0 : decide ((0 : Int) < 5) = true := rfl
  have el50 : decide (w64 ((b : Int) - (a : Int)) < 50) = true := decide_eq_true (by rw [w64_id (by omega) (by omega)]; omega)
  rw [loopM_eq]
  simp only [e0, cond_true, w64_succ (i := a) (by omega)]
  obtain ⟨i, h1, h2, h3, h4⟩ := scan_idx (q := fun k => !lt (el d k) (el d (k - 1))) (b := b) (f := fun (s8 : (Int)) => Option.bind ((bif decide (s8 < (b : Int)) then
  (gidx d s8).bind fun x12 =>
  (gidx d (w64 (s8 - 1))).bind fun x19 =>
  (cmp x12 x19).bind fun r27 =>
  some (!(decide (r27 < 0)))
 else
  some false)) fun o10 =>
  (bif o10 then
  some (.inl (w64 (s8 + 1)))
 else
  some (.inr s8))) (fun i hi1 hi2 => by
      have e1 : decide ((i : Int) < (b : Int)) = true := decide_eq_true (by omega)
      simp only [e1, cond_true, w64_pred hi1 (show i < 4000000000000000000 by omega), gidx_el (d := d) (i := i) (by omega), gidx_el (d := d) (i := i - 1) (by omega), Option.bind_some, cmp_ofn hc (hp i (by omega)) (hp (i - 1) (by omega)), w64_succ (i := i) (by omega)]
      cases lt (el d i) (el d (i - 1)) <;> simp) (fun i hi => by
      have e1 : decide ((i : Int) < (b : Int)) = false := decide_eq_false (by omega)
      simp only [e1, cond_false, Option.bind_some]) (b - (a + 1)) (a + 1) (by omega) (by omega)
  simp only [h1, Option.bind_some]
  by_cases hib : i = b
  · subst hib
    refine ⟨true, by simp [selim], fun _ => asc_adj hl hb hp fun k hk1 hk2 => ?_⟩
    have := h4 k hk1 hk2
    simpa using this
  · have e1 : ((i : Int) == (b : Int)) = false := beq_eq_false_iff_ne.2 (by omega)
    refine ⟨false, by simp [selim, e1, el50], fun h => by cases h⟩

def NIn (lt : α → α → Bool) (a0 b0 a b : Nat) (d : List α) : Prop := ∀ i j, a0 ≤ i → i < j → j < b0 → ¬ (a ≤ i ∧ j < b) → lt (el d j) (el d i) = false
theorem NIn.perm {a0 b0 a b : Nat} {d d' : List α} (h : NIn lt a0 b0 a b d) (hP : PermR a b d d') (ha : a0 ≤ a) (hab : a ≤ b) (hb : b ≤ b0) (hb0 : b0 ≤ d.length) : NIn lt a0 b0 a b d' := by
  intro i j h1 h2 h3 h4
  have cl : ∀ k, ∃ k', el d' k = el d k' ∧ ((a ≤ k ∧ k < b) → a ≤ k' ∧ k' < b) ∧ (¬ (a ≤ k ∧ k < b) → k' = k) := by
    intro k
    by_cases hk : a ≤ k ∧ k < b
    · obtain ⟨k', g1, g2, g3⟩ := hP.mem hab (by omega) hk.1 hk.2
      exact ⟨k', g3, fun _ => ⟨g1, g2⟩, fun h => absurd hk h⟩
    · exact ⟨k, hP.out k (by omega), fun h => absurd h hk, fun _ => rfl⟩
  obtain ⟨i', e1, q1, q2⟩ := cl i
  obtain ⟨j', e2, q3, q4⟩ := cl j
  rw [e1, e2]
  by_cases hi : a ≤ i ∧ i < b
  · have := q1 hi
    by_cases hj : a ≤ j ∧ j < b
    · exact absurd ⟨hi.1, hj.2⟩ h4
    · have := q4 hj; subst this; exact h i' j' (by omega) (by omega) h3 (by omega)
  · have := q2 hi; subst this
    by_cases hj : a ≤ j ∧ j < b
    · have := q3 hj; exact h i' j' h1 (by omega) (by omega) (by omega)
    · have := q4 hj; subst this; exact h i' j' h1 h2 h3 (by omega)
theorem NIn.done {a0 b0 a b : Nat} {d : List α} (h : NIn lt a0 b0 a b d) (hA : Asc lt a b d) : Asc lt a0 b0 d := by
  intro i j h1 h2 h3
  by_cases hc : a ≤ i ∧ j < b
  · exact hA i j hc.1 h2 hc.2
  · exact h i j h1 h2 h3 hc
theorem pdq_small (hc : CmpOk cmp lt p) (hl : Lin lt p) {d : List α} {a b : Nat} (hab : a ≤ b) (hb : b ≤ d.length) (h12 : b ≤ a + 12) (hn : d.length < 1000000000) (hp : AllP p d) (n : Nat) (limit : Int) :
    ∃ d', G.pdq cmp (n + 1) d (a : Int) (b : Int) limit = some d' ∧ PermR a b d d' ∧ Asc lt a b d' := by
  obtain ⟨d', h1, h2, h3⟩ := ins_ok hc hl hab hb hn hp
  refine ⟨d', ?_, h2, h3⟩
  show G.pdqF cmp (G.pdq cmp n) d (a : Int) (b : Int) limit = some d'
  unfold G.pdqF
  have e1 : decide (w64 ((b : Int) - (a : Int)) ≤ 12) = true := decide_eq_true (by rw [w64_id (by omega) (by omega)]; omega)
  rw [loopM_eq]
  simp only [e1, cond_true, h1, Option.bind_some, selim]
theorem nodup_ne {d : List α} (h : d.Nodup) {i j : Nat} (hi : i < d.length) (hj : j < d.length) (hne : i ≠ j) : el d i ≠ el d j := by
  rw [el_lt hi, el_lt hj]
  have hp := List.pairwise_iff_getElem.1 h
  rcases Nat.lt_or_gt_of_ne hne with hlt | hlt
  · exact hp i j hi hj hlt
  · exact fun e => hp j i hj hi hlt e.symm
theorem pdq_ok (hc : CmpOk cmp lt p) (hl : Lin lt p) {d0 : List α} {a0 b0 : Nat} (hab : a0 ≤ b0) (hb : b0 ≤ d0.length) (h16 : b0 ≤ a0 + 16) (hn : d0.length < 1000000000) (hp : AllP p d0) (hnd : d0.Nodup) (h00 : a0 = 0) (n : Nat) (l0 : Nat) (hl0 : b0 ≤ a0 + l0 + 11) (hl1 : l0 ≤ 100) :
    ∃ d', G.pdq cmp (n + 2) d0 (a0 : Int) (b0 : Int) (l0 : Int) = some d' ∧ PermR a0 b0 d0 d' ∧ Asc lt a0 b0 d' := by
  show ∃ d', G.pdqF cmp (G.pdq cmp (n + 1)) d0 (a0 : Int) (b0 : Int) (l0 : Int) = some d' ∧ _
  unfold G.pdqF
  refine loop_ex (fun s => ∃ (d : List α) (a b l : Nat) (wb wp : Bool), s = (d, (a : Int), (b : Int), (l : Int), wb, wp) ∧ PermR a0 b0 d0 d ∧ a0 ≤ a ∧ a ≤ b ∧ b ≤ b0 ∧ NIn lt a0 b0 a b d ∧ (a0 < a → ∀ i, a ≤ i → i < b → lt (el d (a - 1)) (el d i) = true) ∧ b ≤ a + l + 11 ∧ l ≤ 100) (fun s => (s.2.2.1 - s.2.1).toNat)
    (fun d' => PermR a0 b0 d0 d' ∧ Asc lt a0 b0 d') ?_ ⟨d0, a0, b0, l0, true, true, rfl, PermR.refl _, Nat.le_refl _, hab, Nat.le_refl _, fun i j h1 h2 h3 h4 => absurd ⟨h1, h3⟩ h4, fun h => absurd h (Nat.lt_irrefl _), hl0, hl1⟩ (fun d' h => ⟨d', rfl, h⟩)
  rintro _ ⟨d, a, b, l, wb, wp, rfl, hP, q1, q2, q3, hN, hB, hL, hL1⟩
  have hlen := hP.len
  have hpd := hp.perm hP.perm
  simp only
  by_cases h12 : b ≤ a + 12
  · right
    have e1 : decide (w64 ((b : Int) - (a : Int)) ≤ 12) = true := decide_eq_true (by rw [w64_id (by omega) (by omega)]; omega)
    obtain ⟨d', h1, h2, h3⟩ := ins_ok hc hl q2 (by omega) (by omega) hpd (d := d)
    refine ⟨d', by simp only [e1, cond_true, h1, Option.bind_some], hP.trans (h2.mono q1 q3), ?_⟩
    exact (hN.perm h2 q1 q2 q3 (by omega)).done h3
  have e1 : decide (w64 ((b : Int) - (a : Int)) ≤ 12) = false := decide_eq_false (by rw [w64_id (by omega) (by omega)]; omega)
  have e2 : ((l : Int) == 0) = false := beq_eq_false_iff_ne.2 (by omega)
  simp only [e1, cond_false, e2]
  -- patterns are broken
  obtain ⟨d1, l1, hb1, hP1, hl1a, hl1b⟩ : ∃ (d1 : List α) (l1 : Nat), (bif !wb then (G.brk cmp d (a : Int) (b : Int)).bind fun r19 => some (r19, w64 ((l : Int) - 1)) else some (d, (l : Int))) = some (d1, (l1 : Int)) ∧ PermR a b d d1 ∧ l ≤ l1 + 1 ∧ l1 ≤ 100 := by
    cases wb with
    | true => exact ⟨d, l, rfl, PermR.refl _, by omega, hL1⟩
    | false =>
      obtain ⟨d1, h1, h2⟩ := brk_ok (cmp := cmp) (d := d) (a := a) (b := b) (by omega) (by omega) (by omega) (by omega)
      refine ⟨d1, l - 1, ?_, h2, by omega, by omega⟩
      simp only [Bool.not_false, cond_true, h1, Option.bind_some, w64_pred (j := l) (by omega) (by omega)]
  simp only [hb1, Option.bind_some]
  have hlen1 := hP1.len
  have hp1 := hpd.perm hP1.perm
  obtain ⟨pv0, h0, hpv, hpv1, hpv2⟩ := piv_ok hc (d := d1) (a := a) (b := b) (by omega) (by omega) (by omega) (by omega) hp1
  simp only [hpv, Option.bind_some]
  obtain ⟨d2, pv, h2, hr2, hP2, hv1, hv2⟩ : ∃ (d2 : List α) (pv : Nat) (h2 : Int), (bif h0 == 2 then (G.rev cmp d1 (a : Int) (b : Int)).bind fun r32 => some (r32, w64 (w64 ((b : Int) - 1) - w64 ((pv0 : Int) - (a : Int))), 1) else some (d1, (pv0 : Int), h0)) = some (d2, (pv : Int), h2) ∧ PermR a b d1 d2 ∧ a ≤ pv ∧ pv < b := by
    cases h0 == 2 with
    | false => exact ⟨d1, pv0, h0, rfl, PermR.refl _, hpv1, hpv2⟩
    | true =>
      obtain ⟨d2, g1, g2⟩ := rev_ok (cmp := cmp) (d := d1) (a := a) (b := b) (by omega) (by omega) (by omega)
      refine ⟨d2, b - 1 - (pv0 - a), 1, ?_, g2, by omega, by omega⟩
      have e3 : w64 ((pv0 : Int) - (a : Int)) = ((pv0 - a : Nat) : Int) := by rw [w64_id (by omega) (by omega)]; omega
      have e4 : w64 (((b - 1 : Nat) : Int) - ((pv0 - a : Nat) : Int)) = ((b - 1 - (pv0 - a) : Nat) : Int) := by rw [w64_id (by omega) (by omega)]; omega
      simp only [cond_true, g1, Option.bind_some, w64_pred (j := b) (by omega) (by omega), e3, e4]
  simp only [hr2, Option.bind_some]
  have hlen2 := hP2.len
  have hp2 := hp1.perm hP2.perm
  have hPd2 : PermR a b d d2 := hP1.trans hP2
  have hN2 := hN.perm hPd2 q1 q2 q3 (by omega)
  have hB2 : a0 < a → ∀ i, a ≤ i → i < b → lt (el d2 (a - 1)) (el d2 i) = true := by
    intro ha i h1 h2
    obtain ⟨k, g1, g2, g3⟩ := hPd2.mem q2 (by omega) h1 h2
    rw [g3, hPd2.out (a - 1) (by omega)]
    exact hB ha k g1 g2
  have hP02 : PermR a0 b0 d0 d2 := hP.trans (hPd2.mono q1 q3)
  obtain ⟨x, hx⟩ : ∃ x : Bool, (bif wb then (bif wp then some (h2 == 1) else some false) else some false) = some x := by
    cases wb <;> cases wp <;> exact ⟨_, rfl⟩
  simp only [hx, Option.bind_some]
  obtain ⟨y, hy, hyA⟩ := par_ok hc hl (d := d2) (a := a) (b := b) (by omega) (by omega) (by omega) (by omega) hp2
  by_cases hxy : x = true ∧ y = true
  · right
    obtain ⟨rfl, rfl⟩ := hxy
    refine ⟨d2, by simp only [cond_true, hy, Option.bind_some, selim], hP02, hN2.done (hyA rfl)⟩
  left
  have hsel : (bif x then (G.par cmp d2 (a : Int) (b : Int)).bind fun r45 => (bif r45.1 then some (.inr r45.2) else some (.inl r45.2)) else some (.inl d2)) = some (.inl d2 : List α ⊕ List α) := by
    cases x with
    | false => rfl
    | true =>
      have : y = false := by cases y with | false => rfl | true => exact absurd ⟨rfl, rfl⟩ hxy
      subst this
      simp only [cond_true, hy, Option.bind_some, cond_false]
  simp only [hsel, Option.bind_some, selim]
  -- no element equals the one before the part
  have hpeq : (bif decide ((0 : Int) < (a : Int)) then (gidx d2 (w64 ((a : Int) - 1))).bind fun x56 => (gidx d2 (pv : Int)).bind fun x63 => (cmp x56 x63).bind fun r71 => some (!(decide (r71 < 0))) else some false) = some false := by
    by_cases ha : 0 < a
    · have e5 : decide ((0 : Int) < (a : Int)) = true := decide_eq_true (by omega)
      have := hB2 (by omega) pv hv1 hv2
      simp only [e5, cond_true, w64_pred (j := a) (by omega) (by omega), gidx_el (d := d2) (i := a - 1) (by omega), gidx_el (d := d2) (i := pv) (by omega), Option.bind_some, cmp_ofn hc (hp2 (a - 1) (by omega)) (hp2 pv (by omega)), this, Bool.not_true]
    · have e5 : decide ((0 : Int) < (a : Int)) = false := decide_eq_false (by omega)
      simp only [e5, cond_false]
  simp only [hpeq, Option.bind_some, cond_false]
  obtain ⟨_, hpr, m, xp, d3, rfl, hpt⟩ := prt_ok hc (d := d2) (a := a) (b := b) (pv := pv) hv1 hv2 (by omega) (by omega) (by omega) hp2
  simp only [hpr, Option.bind_some]
  have hlen3 := hpt.perm.len
  have hp3 := hp2.perm hpt.perm.perm
  have hnd3 : d3.Nodup := (hpt.perm.perm.trans (hP02.perm)).nodup_iff.2 hnd
  have hN3 := hN2.perm hpt.perm q1 q2 q3 (by omega)
  have hB3 : a0 < a → ∀ i, a ≤ i → i < b → lt (el d3 (a - 1)) (el d3 i) = true := by
    intro ha i h1 h2
    obtain ⟨k, g1, g2, g3⟩ := hpt.perm.mem q2 (by omega) h1 h2
    rw [g3, hpt.perm.out (a - 1) (by omega)]
    exact hB2 ha k g1 g2
  have hP03 : PermR a0 b0 d0 d3 := hP02.trans (hpt.perm.mono q1 q3)
  have hge := hpt.ge
  have hle := hpt.le
  have hhi : ∀ i, m < i → i < b → lt (el d3 m) (el d3 i) = true := by
    intro i h1 h2
    rcases hl.total (el d3 m) (el d3 i) (hp3 m (by omega)) (hp3 i (by omega)) (nodup_ne hnd3 (by omega) (by omega) (by omega)) with h | h
    · exact h
    · rw [hpt.high i h1 h2] at h; cases h
  by_cases hsm : m - a < b - m
  · have e6 : decide (w64 ((m : Int) - (a : Int)) < w64 ((b : Int) - (m : Int))) = true := decide_eq_true (by rw [w64_id (by omega) (by omega), w64_id (by omega) (by omega)]; omega)
    obtain ⟨d4, g1, g2, g3⟩ := pdq_small hc hl (d := d3) (a := a) (b := m) hge (by omega) (by omega) (by omega) hp3 n (l1 : Int)
    simp only [e6, cond_true, g1, Option.bind_some, w64_succ (i := m) (by omega)]
    refine ⟨_, rfl, ⟨d4, m + 1, b, l1, _, xp, rfl, hP03.trans (g2.mono q1 (by omega)), by omega, by omega, q3, ?_, ?_, by omega, hl1b⟩, by simp only; omega⟩
    · -- outside of the right part
      have mid : el d4 m = el d3 m := g2.out m (by omega)
      have lo4 : ∀ i, a ≤ i → i < m → lt (el d4 i) (el d4 m) = true := by
        intro i h1 h2
        obtain ⟨k, k1, k2, k3⟩ := g2.mem hge (by omega) h1 h2
        rw [k3, mid]; exact hpt.low k k1 k2
      have hi4 : ∀ i, m < i → i < b → lt (el d4 m) (el d4 i) = true := by
        intro i h1 h2
        rw [mid, g2.out i (by omega)]; exact hhi i h1 h2
      have hp4 := hp3.perm g2.perm
      have hN4 := hN3.perm (g2.mono (Nat.le_refl _) (by omega)) q1 q2 q3 (by omega)
      have hlen4 := g2.len
      intro i j h1 h2 h3 h4
      by_cases hin : a ≤ i ∧ j < b
      · obtain ⟨hi, hj⟩ := hin
        by_cases hjm : j < m
        · exact g3 i j hi h2 hjm
        · by_cases hjm2 : j = m
          · subst hjm2; exact hl.asymm (hp4 i (by omega)) (hp4 j (by omega)) (lo4 i hi h2)
          · have hgt := hi4 j (by omega) hj
            by_cases him : i = m
            · subst him; exact hl.asymm (hp4 i (by omega)) (hp4 j (by omega)) hgt
            · have him2 : i < m := by omega
              exact hl.asymm (hp4 i (by omega)) (hp4 j (by omega)) (hl.trans _ (el d4 m) _ (hp4 i (by omega)) (hp4 m (by omega)) (hp4 j (by omega)) (lo4 i hi him2) hgt)
      · exact hN4 i j h1 h2 h3 hin
    · intro _ i h1 h2
      rw [show m + 1 - 1 = m by omega, g2.out m (by omega), g2.out i (by omega)]
      exact hhi i (by omega) h2
  · have e6 : decide (w64 ((m : Int) - (a : Int)) < w64 ((b : Int) - (m : Int))) = false := decide_eq_false (by rw [w64_id (by omega) (by omega), w64_id (by omega) (by omega)]; omega)
    obtain ⟨d4, g1, g2, g3⟩ := pdq_small hc hl (d := d3) (a := m + 1) (b := b) (by omega) (by omega) (by omega) (by omega) hp3 n (l1 : Int)
    simp only [e6, cond_false, w64_succ (i := m) (by omega), g1, Option.bind_some]
    refine ⟨_, rfl, ⟨d4, a, m, l1, _, xp, rfl, hP03.trans (g2.mono (by omega) q3), q1, hge, by omega, ?_, ?_, by omega, hl1b⟩, by simp only; omega⟩
    · have mid : el d4 m = el d3 m := g2.out m (by omega)
      have lo4 : ∀ i, a ≤ i → i < m → lt (el d4 i) (el d4 m) = true := by
        intro i h1 h2
        rw [mid, g2.out i (by omega)]; exact hpt.low i h1 h2
      have hi4 : ∀ i, m < i → i < b → lt (el d4 m) (el d4 i) = true := by
        intro i h1 h2
        obtain ⟨k, k1, k2, k3⟩ := g2.mem (by omega) (by omega) (show m + 1 ≤ i by omega) h2
        rw [k3, mid]; exact hhi k (by omega) k2
      have hp4 := hp3.perm g2.perm
      have hN4 := hN3.perm (g2.mono (by omega) (Nat.le_refl _)) q1 q2 q3 (by omega)
      have hlen4 := g2.len
      intro i j h1 h2 h3 h4
      by_cases hin : a ≤ i ∧ j < b
      · obtain ⟨hi, hj⟩ := hin
        by_cases him : m < i
        · exact g3 i j (by omega) h2 hj
        · by_cases him2 : i = m
          · subst him2; exact hl.asymm (hp4 i (by omega)) (hp4 j (by omega)) (hi4 j h2 hj)
          · have hlo := lo4 i hi (by omega)
            by_cases hjm : j = m
            · subst hjm; exact hl.asymm (hp4 i (by omega)) (hp4 j (by omega)) hlo
            · have hjm2 : m < j := by omega
              exact hl.asymm (hp4 i (by omega)) (hp4 j (by omega)) (hl.trans _ (el d4 m) _ (hp4 i (by omega)) (hp4 m (by omega)) (hp4 j (by omega)) hlo (hi4 j hjm2 hj))
      · exact hN4 i j h1 h2 h3 hin
    · intro ha i h1 h2
      rw [g2.out (a - 1) (by omega), g2.out i (by omega)]
      exact hB3 ha i h1 (by omega)
theorem sort_ok (hc : CmpOk cmp lt p) (hl : Lin lt p) {d : List α} (h16 : d.length ≤ 16) (hp : ∀ x ∈ d, p x) (hnd : d.Nodup) :
    ∃ d', ((M.math_bits_Len (wk .u64 (d.length : Int))).bind fun r1 => (G.pdq cmp 100 d 0 (d.length : Int) r1).bind fun r5 => some r5) = some d' ∧ d'.Perm d ∧ d'.Pairwise (fun x y => lt y x = false) := by
  obtain ⟨l, h1, h2⟩ := len_small d.length h16
  have hlb : l ≤ 100 := by
    rcases Nat.lt_or_ge 100 l with h | h
    · exfalso
      have : ∀ n : Nat, n ≤ 16 → ∀ l : Nat, M.math_bits_Len (wk .u64 (n : Int)) = some (l : Int) → l ≤ 16 := by
        intro n hn l hl
        rcases (show n = 0 ∨ n = 1 ∨ n = 2 ∨ n = 3 ∨ n = 4 ∨ n = 5 ∨ n = 6 ∨ n = 7 ∨ n = 8 ∨ n = 9 ∨ n = 10 ∨ n = 11 ∨ n = 12 ∨ n = 13 ∨ n = 14 ∨ n = 15 ∨ n = 16 by omega) with rfl | rfl | rfl | rfl | rfl | rfl | rfl | rfl | rfl | rfl | rfl | rfl | rfl | rfl | rfl | rfl | rfl
        all_goals
          first
          | (have e : (0 : Int) = (l : Int) := Option.some.inj hl; omega)
          | (have e : (1 : Int) = (l : Int) := Option.some.inj hl; omega)
          | (have e : (2 : Int) = (l : Int) := Option.some.inj hl; omega)
          | (have e : (3 : Int) = (l : Int) := Option.some.inj hl; omega)
          | (have e : (4 : Int) = (l : Int) := Option.some.inj hl; omega)
          | (have e : (5 : Int) = (l : Int) := Option.some.inj hl; omega)
      have := this d.length h16 l h1
      omega
    · exact h
  obtain ⟨d', g1, g2, g3⟩ := pdq_ok hc hl (d0 := d) (a0 := 0) (b0 := d.length) (by omega) (Nat.le_refl _) (by omega) (by omega) (AllP.of hp) hnd rfl 98 l (by omega) hlb
  rw [h1]
  simp only [Option.bind_some]
  have e0 : ((0 : Nat) : Int) = 0 := rfl
  rw [e0] at g1
  rw [g1]
  refine ⟨d', rfl, g2.perm, ?_⟩
  rw [List.pairwise_iff_getElem]
  intro i j hi hj hij
  have hlen := g2.len
  have := g3 i j (Nat.zero_le _) hij (by omega)
  rwa [el_lt hi, el_lt hj] at this
end
end Go.Vs

namespace Go.Vs

abbrev Hit := Int × Int
def ltH (x y : Hit) : Bool := decide (x.2 < y.2 ∨ x.2 = y.2 ∧ x.1 < y.1)
theorem ltH_iff {x y : Hit} : ltH x y = true ↔ x.2 < y.2 ∨ x.2 = y.2 ∧ x.1 < y.1 := by simp [ltH]
theorem ltH_false {x y : Hit} : ltH x y = false ↔ ¬ (x.2 < y.2 ∨ x.2 = y.2 ∧ x.1 < y.1) := by simp [ltH]
theorem linH : Lin ltH (fun _ => True) where
  irrefl x _ := by rw [ltH_false]; omega
  trans x y z _ _ _ h1 h2 := by rw [ltH_iff] at *; omega
  total x y _ _ h := by
    rw [ltH_iff, ltH_iff]
    by_cases e : x.2 = y.2
    · have : x.1 ≠ y.1 := fun e2 => h (Prod.ext e2 e)
      omega
    · omega
theorem cmpOr_ok (a b : Int) : M.cmp_Or_int [a, b] = some (if a = 0 then b else a) := by
  unfold M.cmp_Or_int
  by_cases ha : a = 0
  · subst ha
    by_cases hb : b = 0
    · subst hb
      rw [loopM_eq]
      have e0 : decide ((0 : Int) < (([0, 0] : List Int).length : Int)) = true := rfl
      have g0 : gidx ([0, 0] : List Int) 0 = some 0 := rfl
      have w0 : w64 ((0 : Int) + 1) = 1 := rfl
      have e1 : decide ((1 : Int) < (([0, 0] : List Int).length : Int)) = true := rfl
      have g1 : gidx ([0, 0] : List Int) 1 = some 0 := rfl
      have w1 : w64 ((1 : Int) + 1) = 2 := rfl
      have e2 : decide ((2 : Int) < (([0, 0] : List Int).length : Int)) = false := rfl
      simp only [e0, cond_true, g0, Option.bind_some, bne_self_eq_false, cond_false, w0, selim]
      rw [loopM_eq]
      simp only [e1, cond_true, g1, Option.bind_some, bne_self_eq_false, cond_false, w1, selim]
      rw [loopM_eq]
      simp only [e2, cond_false, Option.bind_some, selim, if_true]
    · rw [loopM_eq]
      have e0 : decide ((0 : Int) < (([0, b] : List Int).length : Int)) = true := rfl
      have g0 : gidx ([0, b] : List Int) 0 = some 0 := rfl
      have w0 : w64 ((0 : Int) + 1) = 1 := rfl
      have e1 : decide ((1 : Int) < (([0, b] : List Int).length : Int)) = true := rfl
      have g1 : gidx ([0, b] : List Int) 1 = some b := rfl
      simp only [e0, cond_true, g0, Option.bind_some, bne_self_eq_false, cond_false, w0, selim]
      rw [loopM_eq]
      have hb' : (b != 0) = true := by simpa using hb
      simp only [e1, cond_true, g1, Option.bind_some, hb', selim, if_true]
  · rw [loopM_eq]
    have e0 : decide ((0 : Int) < (([a, b] : List Int).length : Int)) = true := rfl
    have g0 : gidx ([a, b] : List Int) 0 = some a := rfl
    have ha' : (a != 0) = true := by simpa using ha
    simp only [e0, cond_true, g0, Option.bind_some, ha', selim, if_neg ha]
theorem compareHits_ok (x y : Hit) : ∃ r, M.impl_compareHits (x.1, x.2) (y.1, y.2) = some r ∧ decide (r < 0) = ltH x y ∧ decide (0 < r) = ltH y x := by
  unfold M.impl_compareHits
  simp only [compare_ok, Option.bind_some, cmpOr_ok]
  refine ⟨_, rfl, ?_, ?_⟩
  · unfold ltH
    apply decide_eq_decide.2
    by_cases h : cmpI x.2 y.2 = 0
    · rw [if_pos h, cmpI_neg]; rw [cmpI_zero] at h; omega
    · rw [if_neg h, cmpI_neg]; rw [cmpI_zero] at h; omega
  · unfold ltH
    apply decide_eq_decide.2
    by_cases h : cmpI x.2 y.2 = 0
    · rw [if_pos h, cmpI_pos]; rw [cmpI_zero] at h; omega
    · rw [if_neg h, cmpI_pos]; rw [cmpI_zero] at h; omega
end Go.Vs

namespace Go.Vs

def insH (x : Hit) : List Hit → List Hit
  | [] => [x]
  | y :: r => if ltH x y then x :: y :: r else y :: insH x r
def AscH (l : List Hit) : Prop := l.Pairwise fun x y => ltH y x = false
theorem insH_perm (x : Hit) (l : List Hit) : (insH x l).Perm (x :: l) := by
  induction l with
  | nil => exact List.Perm.refl _
  | cons y r ih =>
    unfold insH
    split
    · exact List.Perm.refl _
    · exact (List.Perm.cons y ih).trans (List.Perm.swap x y r)
theorem insH_asc {x : Hit} {l : List Hit} (h : AscH l) : AscH (insH x l) := by
  induction l with
  | nil => exact List.pairwise_singleton _ _
  | cons y r ih =>
    obtain ⟨h1, h2⟩ := List.pairwise_cons.1 h
    unfold insH
    split
    · rename_i hlt
      refine List.pairwise_cons.2 ⟨fun z hz => ?_, h⟩
      rcases List.mem_cons.1 hz with rfl | hz
      · exact linH.asymm trivial trivial hlt
      · exact linH.ntrans trivial trivial trivial (h1 z hz) (linH.asymm trivial trivial hlt)
    · rename_i hlt
      refine List.pairwise_cons.2 ⟨fun z hz => ?_, ih h2⟩
      rcases List.mem_cons.1 ((insH_perm x r).mem_iff.1 hz) with rfl | hz
      · simpa using hlt
      · exact h1 z hz
theorem ltH_antisymm {x y : Hit} (h1 : ltH x y = false) (h2 : ltH y x = false) : x = y := by
  rcases Classical.em (x = y) with h | h
  · exact h
  · rcases linH.total x y trivial trivial h with h' | h'
    · rw [h1] at h'; cases h'
    · rw [h2] at h'; cases h'
theorem asc_uniq {l m : List Hit} (hl : AscH l) (hm : AscH m) (h : l.Perm m) : l = m :=
  List.Perm.eq_of_pairwise (le := fun x y => ltH y x = false) (fun _ _ _ _ h1 h2 => ltH_antisymm h2 h1) hl hm h
def isort (l : List Hit) : List Hit := l.foldl (fun S x => insH x S) []
theorem isort_spec (l : List Hit) : AscH (isort l) ∧ (isort l).Perm l := by
  have key : ∀ (l S : List Hit), AscH S → AscH (l.foldl (fun S x => insH x S) S) ∧ (l.foldl (fun S x => insH x S) S).Perm (S ++ l) := by
    intro l
    induction l with
    | nil => intro S h; exact ⟨h, by simp⟩
    | cons x r ih =>
      intro S h
      obtain ⟨h1, h2⟩ := ih (insH x S) (insH_asc h)
      refine ⟨h1, h2.trans ?_⟩
      have := List.Perm.append_right r (insH_perm x S)
      exact this.trans (List.perm_middle.symm)
  exact key l [] List.Pairwise.nil
theorem isort_uniq {l m : List Hit} (hm : AscH m) (h : m.Perm l) : isort l = m := asc_uniq (isort_spec l).1 hm ((isort_spec l).2.trans h.symm)
def topH (k : Nat) (l : List Hit) : List Hit := (isort l).take k
/-! ## What the heap keeps -/
/-! ## The searches -/
theorem nearer_ok (x y : Hit) : M.spec_nearer (x.1, x.2) (y.1, y.2) = some (ltH x y) := by
  unfold M.spec_nearer ltH
  by_cases h1 : x.2 < y.2
  · simp [h1]
  · by_cases h2 : x.2 = y.2
    · simp [h2]
    · have h3 : (x.2 == y.2) = false := beq_eq_false_iff_ne.2 h2
      simp [h1, h2, h3]
theorem hitOf_ok {x : Item} {kind : Int} {at_ : List Int} (hx : isVec x.2.1 = true) (hv : isVec at_ = true) : M.impl_hitOf (x.1, x.2.1, x.2.2) kind at_ = some (x.1, dist kind x.2.1 at_) := by
  unfold M.impl_hitOf
  simp only [implDist_vec hx hv, Option.bind_some]
end Go.Vs

namespace Go.Vs

end Go.Vs

namespace Go.Vs

end Go.Vs

namespace Go.Vs

end Go.Vs

namespace Go.Vs

end Go.Vs

namespace Go.Vs

noncomputable abbrev cmpItems (k : Int) (v : List Int) : Item → Item → Option Int := fun x y => M.impl_sortByDistance_1__p3__p24 (x.1, x.2.1, x.2.2) (y.1, y.2.1, y.2.2) k v
section
variable (k : Int) (v : List Int)
theorem G.pdq_items : ∀ n, (fun d a b c => M.slices_pdqsortCmpFunc_impl_Item__impl_sortByDistance_1 n d a b c k v) = G.pdq (cmpItems k v) n
  | 0 => rfl
  | n + 1 => by
    have ih := G.pdq_items n
    show (fun d a b c => M.slices_pdqsortCmpFunc_impl_Item__impl_sortByDistance_1_F (M.slices_pdqsortCmpFunc_impl_Item__impl_sortByDistance_1 n) d a b c k v) = G.pdqF (cmpItems k v) (G.pdq (cmpItems k v) n)
    rw [← ih]; rfl
end

def ltI (k : Int) (v : List Int) (x y : Item) : Bool := ltH (x.1, dist k x.2.1 v) (y.1, dist k y.2.1 v)
theorem cmpItems_ok {k : Int} {v : List Int} (hv : isVec v = true) {p : Item → Prop} (hp : ∀ x, p x → isVec x.2.1 = true) : CmpOk (cmpItems k v) (ltI k v) p := fun x y hx hy => by
  obtain ⟨r, h1, h2, _⟩ := compareHits_ok (x.1, dist k x.2.1 v) (y.1, dist k y.2.1 v)
  refine ⟨r, ?_, h2⟩
  show M.impl_sortByDistance_1__p3__p24 (x.1, x.2.1, x.2.2) (y.1, y.2.1, y.2.2) k v = some r
  unfold M.impl_sortByDistance_1__p3__p24
  simp only [hitOf_ok (hp x hx) hv, hitOf_ok (hp y hy) hv, Option.bind_some]
  have h1' : M.impl_compareHits (x.1, dist k x.2.1 v) (y.1, dist k y.2.1 v) = some r := h1
  rw [h1']; rfl
theorem linI {k : Int} {v : List Int} {p : Item → Prop} (hinj : ∀ x y, p x → p y → x.1 = y.1 → x = y) : Lin (ltI k v) p where
  irrefl x _ := linH.irrefl _ trivial
  trans x y z _ _ _ h1 h2 := linH.trans _ _ _ trivial trivial trivial h1 h2
  total x y hx hy h := linH.total _ _ trivial trivial (fun e => h (hinj x y hx hy (congrArg (·.1) e)))
theorem sortFunc_items {k : Int} {v : List Int} {d : List Item} (hv : isVec v = true) (h16 : d.length ≤ 16) (hvec : ∀ x ∈ d, isVec x.2.1 = true) (hkeys : (d.map (·.1)).Nodup) :
    ∃ d', M.slices_SortFunc_impl_Item_impl_Item__impl_sortByDistance_1 d k v = some d' ∧ d'.Perm d ∧ d'.Pairwise (fun x y => ltI k v y x = false) := by
  have hinj : ∀ x y, x ∈ d → y ∈ d → x.1 = y.1 → x = y := fun x y hx hy e => by
    obtain ⟨i, hi, rfl⟩ := List.mem_iff_getElem.1 hx
    obtain ⟨j, hj, rfl⟩ := List.mem_iff_getElem.1 hy
    have hpw := List.pairwise_iff_getElem.1 (List.pairwise_map.1 hkeys)
    rcases Nat.lt_trichotomy i j with h | h | h
    · exact absurd e (hpw i j hi hj h)
    · subst h; rfl
    · exact absurd e.symm (hpw j i hj hi h)
  obtain ⟨d', h1, h2, h3⟩ := sort_ok (cmpItems_ok (k := k) hv (p := (· ∈ d)) hvec) (linI hinj) h16 (fun _ h => h) (List.Pairwise.imp (fun h e => h (congrArg (·.1) e)) (List.pairwise_map.1 hkeys))
  refine ⟨d', ?_, h2, h3⟩
  rw [← h1]
  unfold M.slices_SortFunc_impl_Item_impl_Item__impl_sortByDistance_1
  rw [← G.pdq_items]
theorem sortByDistance_ok {k : Int} {v : List Int} {d : List Item} (hv : isVec v = true) (h16 : d.length ≤ 16) (hvec : ∀ x ∈ d, isVec x.2.1 = true) (hkeys : (d.map (·.1)).Nodup) :
    ∃ d', M.impl_sortByDistance d k v = some d' ∧ d'.Perm d ∧ d'.Pairwise (fun x y => ltI k v y x = false) := by
  obtain ⟨d', h1, h2⟩ := sortFunc_items (k := k) hv h16 hvec hkeys
  refine ⟨d', ?_, h2⟩
  unfold M.impl_sortByDistance M.slices_Clone_impl_Item_impl_Item gapp
  simp [h1, show d.length ≤ 2147483648 by omega]
end Go.Vs

namespace Go.Vs

noncomputable def cmpS (k : Int) (v : List Int) : Item → Item → Option Int := fun x y =>
  (M.spec_hit (x.1, x.2.1, x.2.2) k v).bind fun r => (M.spec_hit (y.1, y.2.1, y.2.2) k v).bind fun s => (M.spec_nearer (r.1, r.2) (s.1, s.2)).bind fun b => some (bif b then -1 else 0)
theorem spec_hit_ok {k : Int} {v : List Int} {x : Item} (hk : isKind k = true) (hx : isVec x.2.1 = true) (hv : isVec v = true) : M.spec_hit (x.1, x.2.1, x.2.2) k v = some (x.1, dist k x.2.1 v) := by
  unfold M.spec_hit
  simp only [specDist_vec hk hx hv, Option.bind_some]
theorem cmpS_ok {k : Int} {v : List Int} (hk : isKind k = true) (hv : isVec v = true) {p : Item → Prop} (hp : ∀ x, p x → isVec x.2.1 = true) : CmpOk (cmpS k v) (ltI k v) p := fun x y hx hy => by
  refine ⟨bif ltI k v x y then -1 else 0, ?_, by cases ltI k v x y <;> simp⟩
  unfold cmpS
  simp only [spec_hit_ok hk (hp x hx) hv, spec_hit_ok hk (hp y hy) hv, Option.bind_some]
  have := nearer_ok (x.1, dist k x.2.1 v) (y.1, dist k y.2.1 v)
  have h : M.spec_nearer (x.1, dist k x.2.1 v) (y.1, dist k y.2.1 v) = some (ltI k v x y) := this
  rw [h]; rfl
theorem inner_eq (k : Int) (v : List Int) : (fun (s27 : (List (Int × (List Int) × Int)) × (Int)) => Option.bind ((bif decide (0 < s27.2) then
  (gidx s27.1 s27.2).bind fun x32 =>
  (M.spec_hit (x32.1, x32.2.1, x32.2.2) k v).bind fun r42 =>
  (gidx s27.1 (w64 (s27.2 - 1))).bind fun x45 =>
  (M.spec_hit (x45.1, x45.2.1, x45.2.2) k v).bind fun r56 =>
  (M.spec_nearer (r42.1, r42.2) (r56.1, r56.2)).bind fun r60 =>
  some r60
 else
  some false)) fun o30 =>
  (bif o30 then
  (gidx s27.1 s27.2).bind fun x67 =>
  (gidx s27.1 (w64 (s27.2 - 1))).bind fun x80 =>
  (gidx s27.1 s27.2).bind fun x90 =>
  (gidx (s27.1.set s27.2.toNat (x80.1, x80.2.1, x80.2.2)) (w64 (s27.2 - 1))).bind fun x100 =>
  some (.inl (((s27.1.set s27.2.toNat (x80.1, x80.2.1, x80.2.2)).set (w64 (s27.2 - 1)).toNat (x67.1, x67.2.1, x67.2.2)), w64 (s27.2 - 1)))
 else
  some (.inr s27.1) : Option ((List Item × Int) ⊕ List Item))) = (fun (s7 : (List Item) × (Int)) => Option.bind ((bif decide (((0 : Nat) : Int) < s7.2) then
  (gidx s7.1 s7.2).bind fun x12 =>
  (gidx s7.1 (w64 (s7.2 - 1))).bind fun x19 =>
  (cmpS k v x12 x19).bind fun r27 =>
  some (decide (r27 < 0))
 else
  some false)) fun o10 =>
  (bif o10 then
  (gidx s7.1 (w64 (s7.2 - 1))).bind fun x34 =>
  (gidx s7.1 s7.2).bind fun x41 =>
  (gidx s7.1 s7.2).bind fun x48 =>
  (gidx (s7.1.set s7.2.toNat x34) (w64 (s7.2 - 1))).bind fun x54 =>
  some (.inl (((s7.1.set s7.2.toNat x34).set (w64 (s7.2 - 1)).toNat x41), w64 (s7.2 - 1)))
 else
  some (.inr s7.1))) := by
  funext s
  have ec : ∀ (a b : Option Item), (a.bind fun x32 => (M.spec_hit (x32.1, x32.2.1, x32.2.2) k v).bind fun r42 => b.bind fun x45 => (M.spec_hit (x45.1, x45.2.1, x45.2.2) k v).bind fun r56 => (M.spec_nearer (r42.1, r42.2) (r56.1, r56.2)).bind fun r60 => some r60)
      = (a.bind fun x12 => b.bind fun x19 => (cmpS k v x12 x19).bind fun r27 => some (decide (r27 < 0))) := by
    intro a b
    cases a with
    | none => rfl
    | some x =>
      cases b with
      | none => simp
      | some y =>
        simp only [Option.bind_some, cmpS]
        cases M.spec_hit (x.1, x.2.1, x.2.2) k v with
        | none => rfl
        | some r =>
          simp only [Option.bind_some]
          cases M.spec_hit (y.1, y.2.1, y.2.2) k v with
          | none => rfl
          | some t =>
            simp only [Option.bind_some]
            cases M.spec_nearer (r.1, r.2) (t.1, t.2) with
            | none => rfl
            | some c => cases c <;> rfl
  have ec2 : ∀ (a : Option Item) (b : Option Item) (c : Option Item) (g : Item → Option Item) (F : Item → Item → Option ((List Item × Int) ⊕ List Item)), (a.bind fun x44 => b.bind fun x54 => c.bind fun x61 => (g x54).bind fun _ => F x54 x44) = (b.bind fun x34 => a.bind fun x41 => c.bind fun x48 => (g x34).bind fun _ => F x34 x41) := by
    intro a b c g F
    cases a <;> cases b <;> rfl
  simp only [ec, Int.cast_ofNat_Int]
  congr 1
  funext o
  cases o with
  | false => rfl
  | true => exact ec2 (gidx s.1 s.2) (gidx s.1 (w64 (s.2 - 1))) (gidx s.1 s.2) (fun y => gidx (s.1.set s.2.toNat y) (w64 (s.2 - 1))) (fun y z => some (.inl (((s.1.set s.2.toNat y).set (w64 (s.2 - 1)).toNat z), w64 (s.2 - 1))))
theorem byDist_ok {k : Int} {v : List Int} {l : List Item} (hk : isKind k = true) (hv : isVec v = true) (hl : l.length ≤ 1000) (hvec : ∀ x ∈ l, isVec x.2.1 = true) (hinj : ∀ x y, x ∈ l → y ∈ l → x.1 = y.1 → x = y) :
    ∃ d', M.spec_byDist l k v = some d' ∧ d'.Perm l ∧ d'.Pairwise (fun x y => ltI k v y x = false) := by
  unfold M.spec_byDist
  rw [inner_eq]
  have key : ∀ (m i : Nat) (s : List Item), i + m = l.length → s.Perm (l.take i) → s.Pairwise (fun x y => ltI k v y x = false) → ∃ r, loopM (fun (s4 : (List (Int × (List Int) × Int)) × (Int)) => (bif decide (s4.2 < (l.length : Int)) then
  (gidx l s4.2).bind fun x9 =>
  (gapp s4.1 ([(x9.1, x9.2.1, x9.2.2)] : List (Int × (List Int) × Int))).bind fun xs21 =>
  Option.bind (loopM (fun (s7 : (List Item) × (Int)) => Option.bind ((bif decide (((0 : Nat) : Int) < s7.2) then
  (gidx s7.1 s7.2).bind fun x12 =>
  (gidx s7.1 (w64 (s7.2 - 1))).bind fun x19 =>
  (cmpS k v x12 x19).bind fun r27 =>
  some (decide (r27 < 0))
 else
  some false)) fun o10 =>
  (bif o10 then
  (gidx s7.1 (w64 (s7.2 - 1))).bind fun x34 =>
  (gidx s7.1 s7.2).bind fun x41 =>
  (gidx s7.1 s7.2).bind fun x48 =>
  (gidx (s7.1.set s7.2.toNat x34) (w64 (s7.2 - 1))).bind fun x54 =>
  some (.inl (((s7.1.set s7.2.toNat x34).set (w64 (s7.2 - 1)).toNat x41), w64 (s7.2 - 1)))
 else
  some (.inr s7.1))) (xs21, w64 ((xs21.length : Int) - 1))) fun o26 =>
  some (.inl (o26, w64 (s4.2 + 1)))
 else
  some (.inr s4.1))) (s, (i : Int)) = some r ∧ r.Perm l ∧ r.Pairwise (fun x y => ltI k v y x = false) := by
    intro m
    induction m with
    | zero =>
      intro i s hi hp hs
      have : i = l.length := by omega
      subst this
      refine ⟨s, ?_, by simpa using hp, hs⟩
      rw [loopM_eq]; simp [selim]
    | succ m ih =>
      intro i s hi hp hs
      have hlt : i < l.length := by omega
      have hsl : s.length = i := by rw [hp.length_eq, List.length_take]; omega
      have e1 : decide ((i : Int) < (l.length : Int)) = true := decide_eq_true (by omega)
      have e2 : w64 ((i : Int) + 1) = ((i + 1 : Nat) : Int) := w64_id (by omega) (by omega)
      have hlen : (s ++ [l[i]]).length = i + 1 := by simp [hsl]
      have e3 : w64 (((s ++ [l[i]]).length : Int) - 1) = (i : Int) := by rw [hlen, w64_id (by omega) (by omega)]; omega
      have ea : ∀ j, j < i → el (s ++ [l[i]]) j = el s j := fun j hj => by rw [el_lt (by omega), el_lt (by omega), List.getElem_append_left (by omega)]
      have hmem : ∀ x ∈ s ++ [l[i]], x ∈ l := fun x hx => by
        rcases List.mem_append.1 hx with h | h
        · exact List.mem_of_mem_take (hp.mem_iff.1 h)
        · rw [List.mem_singleton.1 h]; exact List.getElem_mem hlt
      obtain ⟨d', h1, h2, h3⟩ := ins_inner (cmpS_ok hk hv (p := (· ∈ l)) hvec) (linI hinj) (a := 0) (i := i) (d0 := s ++ [l[i]]) (by omega) (by omega) (AllP.of hmem) (s ++ [l[i]]) i (Nat.zero_le _) (Nat.le_refl _) (PermR.refl _)
        (fun u w _ huv hw hu' hw' => by
          rw [ea u (by omega), ea w (by omega), el_lt (by omega), el_lt (by omega)]
          exact List.pairwise_iff_getElem.1 hs u w _ _ huv) (fun y h h' => by omega)
      have hdl : d'.length = i + 1 := by rw [h2.len, hlen]
      have hp' : d'.Perm (l.take (i + 1)) := by
        rw [List.take_succ_eq_append_getElem hlt]
        exact h2.perm.trans (hp.append_right _)
      have hs' : d'.Pairwise (fun x y => ltI k v y x = false) := by
        refine List.pairwise_iff_getElem.2 fun a b ha hb hab => ?_
        have := h3 a b (Nat.zero_le _) hab (by omega)
        rwa [el_lt ha, el_lt hb] at this
      obtain ⟨r, hr, hr'⟩ := ih (i + 1) d' (by omega) hp' hs'
      refine ⟨r, ?_, hr'⟩
      rw [loopM_eq]
      simp only [e1, cond_true, gidx_nat hlt, Option.bind_some]
      rw [gapp_ok (by simp; omega)]
      have e3' : w64 (((s ++ [(l[i].1, l[i].2.1, l[i].2.2)]).length : Int) - 1) = (i : Int) := e3
      simp only [Option.bind_some, e3']
      rw [show (s ++ [(l[i].1, l[i].2.1, l[i].2.2)]) = s ++ [l[i]] from rfl, h1]
      simp only [Option.bind_some, e2, selim]
      exact hr
  obtain ⟨r, hr, hp, hs⟩ := key l.length 0 [] (by omega) (by simp) List.Pairwise.nil
  refine ⟨r, ?_, hp, hs⟩
  simp only [Int.cast_ofNat_Int] at hr ⊢
  rw [hr]; rfl
end Go.Vs

namespace Go.Vs

theorem ltI_antisymm {k : Int} {v : List Int} {x y : Item} (h1 : ltI k v y x = false) (h2 : ltI k v x y = false) : x.1 = y.1 := by
  have := ltH_antisymm h1 h2
  exact (congrArg (·.1) this).symm

structure OkL (l : List Item) : Prop where
  len : l.length ≤ 16
  vec : ∀ x ∈ l, isVec x.2.1 = true
  keys : (l.map (·.1)).Nodup
theorem OkL.inj {l : List Item} (h : OkL l) : ∀ x y, x ∈ l → y ∈ l → x.1 = y.1 → x = y := fun x y hx hy e => by
  obtain ⟨i, hi, rfl⟩ := List.mem_iff_getElem.1 hx
  obtain ⟨j, hj, rfl⟩ := List.mem_iff_getElem.1 hy
  have hpw := List.pairwise_iff_getElem.1 (List.pairwise_map.1 h.keys)
  rcases Nat.lt_trichotomy i j with h | h | h
  · exact absurd e (hpw i j hi hj h)
  · subst h; rfl
  · exact absurd e.symm (hpw j i hj hi h)
theorem OkL.sub {l m : List Item} (h : OkL l) (hs : List.Sublist m l) : OkL m :=
  ⟨Nat.le_trans hs.length_le h.len, fun x hx => h.vec x (hs.subset hx), List.Nodup.sublist (hs.map _) h.keys⟩
theorem OkL.perm {l m : List Item} (h : OkL l) (hp : m.Perm l) : OkL m :=
  ⟨by rw [hp.length_eq]; exact h.len, fun x hx => h.vec x (hp.mem_iff.1 hx), (hp.map (·.1)).nodup_iff.2 h.keys⟩

noncomputable def sortI (k : Int) (v : List Int) (l : List Item) : List Item := (M.spec_byDist l k v).getD []
theorem sortI_ok {k : Int} {v : List Int} {l : List Item} (hk : isKind k = true) (hv : isVec v = true) (h : OkL l) :
    M.spec_byDist l k v = some (sortI k v l) ∧ M.impl_sortByDistance l k v = some (sortI k v l) ∧ (sortI k v l).Perm l ∧ (sortI k v l).Pairwise (fun x y => ltI k v y x = false) := by
  obtain ⟨d, h1, h2, h3⟩ := byDist_ok hk hv (by have := h.len; omega) h.vec h.inj
  obtain ⟨d', g1, g2, g3⟩ := sortByDistance_ok (k := k) hv h.len h.vec h.keys
  have e : sortI k v l = d := by unfold sortI; rw [h1]; rfl
  have e' : d' = d := List.Perm.eq_of_pairwise (le := fun x y => ltI k v y x = false) (fun x y hx hy ha hb => h.inj x y (g2.mem_iff.1 hx) (h2.mem_iff.1 hy) (ltI_antisymm ha hb)) g3 h3 (g2.trans h2.symm)
  rw [e]
  exact ⟨h1, e' ▸ g1, h2, h3⟩
theorem sortI_len {k : Int} {v : List Int} {l : List Item} (hk : isKind k = true) (hv : isVec v = true) (h : OkL l) : (sortI k v l).length = l.length := (sortI_ok hk hv h).2.2.1.length_eq
theorem sortI_okL {k : Int} {v : List Int} {l : List Item} (hk : isKind k = true) (hv : isVec v = true) (h : OkL l) : OkL (sortI k v l) := h.perm (sortI_ok hk hv h).2.2.1

noncomputable def treeF (k : Int) : Nat → List Item → Tr Item
  | 0, _ => .nil
  | _, [] => .nil
  | n + 1, x :: r => .node x (if h : 0 < (r.length + 1) / 2 then (match (sortI k x.2.1 r)[(r.length + 1) / 2 - 1]? with | some y => dist k x.2.1 y.2.1 | none => 0) else 0)
      (treeF k n ((sortI k x.2.1 r).take ((r.length + 1) / 2))) (treeF k n ((sortI k x.2.1 r).drop ((r.length + 1) / 2)))
theorem implGrow_ok {k : Int} (hk : isKind k = true) : ∀ (n : Nat) (l : List Item), l.length < n → OkL l → M.impl_growTree n l k = some (treeF k n l)
  | 0, l, h, _ => by omega
  | n + 1, [], _, _ => rfl
  | n + 1, x :: r, hl, ho => by
    have hor : OkL r := ho.sub (List.sublist_cons_self x r)
    have hx := ho.vec x (by simp)
    obtain ⟨_, hs, hp, _⟩ := sortI_ok (k := k) hk hx hor
    have hsl := sortI_len (k := k) hk hx hor
    have hso := sortI_okL (k := k) hk hx hor
    have h16 := ho.len
    simp only [List.length_cons] at hl h16
    have e0 : (((x :: r).length : Int) == 0) = false := by simp; omega
    have eh : w64 ((w64 (((sortI k x.2.1 r).length : Int) + 1)).tdiv 2) = (((r.length + 1) / 2 : Nat) : Int) := by
      have a1 : w64 ((r.length : Int) + 1) = (r.length : Int) + 1 := w64_id (by omega) (by omega)
      rw [hsl, a1, Int.tdiv_eq_ediv_of_nonneg (by omega)]
      rw [w64_id (by omega) (by omega)]; omega
    have g1 := implGrow_ok hk n ((sortI k x.2.1 r).take ((r.length + 1) / 2)) (by rw [List.length_take]; omega) (hso.sub (List.take_sublist _ _))
    have g2 := implGrow_ok hk n ((sortI k x.2.1 r).drop ((r.length + 1) / 2)) (by rw [List.length_drop]; omega) (hso.sub (List.drop_sublist _ _))
    show M.impl_growTree_F (M.impl_growTree n) (x :: r) k = _
    unfold M.impl_growTree_F
    have gx : gidx (x :: r) 0 = some x := rfl
    have gr : gslice (x :: r) 1 ((x :: r).length : Int) = some r := by
      rw [gslice_ok (by omega) (by simp; omega) (by simp)]; simp
    simp only [e0, cond_false, gx, gr, Option.bind_some, hs, eh]
    rw [gslice_ok (by omega) (by omega) (by omega)]
    simp only [Option.bind_some, Int.toNat_zero, List.drop_zero, Int.toNat_natCast, g1]
    rw [gslice_ok (by omega) (by omega) (by omega)]
    simp only [Option.bind_some, Int.toNat_natCast, List.take_length, g2]
    by_cases hh : 0 < (r.length + 1) / 2
    · have hlt : (r.length + 1) / 2 - 1 < (sortI k x.2.1 r).length := by omega
      have e1 : decide (0 < (((r.length + 1) / 2 : Nat) : Int)) = true := decide_eq_true (by omega)
      have e2 : w64 ((((r.length + 1) / 2 : Nat) : Int) - 1) = (((r.length + 1) / 2 - 1 : Nat) : Int) := by rw [w64_id (by omega) (by omega)]; omega
      have hy := hso.vec _ (List.getElem_mem hlt)
      have hd := implDistance_ok k (a := x.2.1) (b := (sortI k x.2.1 r)[(r.length + 1) / 2 - 1].2.1) (by have := (isVec_iff.1 hx).1; omega) (by have := (isVec_iff.1 hy).1; omega)
      simp only [e1, cond_true, e2, gidx_nat hlt, Option.bind_some, hd]
      simp only [treeF, hh, dite_true, List.getElem?_eq_getElem hlt, Tr.mk]
    · have e1 : decide (0 < (((r.length + 1) / 2 : Nat) : Int)) = false := decide_eq_false (by omega)
      simp only [e1, cond_false, Option.bind_some]
      simp only [treeF, hh, dite_false, Tr.mk]
end Go.Vs

namespace Go.Vs

abbrev Nod := Int × Int × Int × Int
def nodesT : Tr Item → Nat → List Nod
  | .nil, _ => []
  | .node x n l r, a => (x.1, n, (bif l.isNil then -1 else ((a + 1 : Nat) : Int)), (bif r.isNil then -1 else ((a + 1 + (nodesT l (a + 1)).length : Nat) : Int))) :: (nodesT l (a + 1) ++ nodesT r (a + 1 + (nodesT l (a + 1)).length))
def Tr.size : Tr Item → Nat
  | .nil => 0
  | .node _ _ l r => l.size + r.size + 1
theorem nodesT_len : ∀ (t : Tr Item) (a : Nat), (nodesT t a).length = t.size
  | .nil, _ => rfl
  | .node x n l r, a => by simp only [nodesT, List.length_cons, List.length_append, nodesT_len l, nodesT_len r, Tr.size]
theorem mid_get {α : Type} (ns L : List α) (a : α) : gidx (ns ++ [a] ++ L) (ns.length : Int) = some a := by
  unfold gidx
  rw [if_pos (by omega)]
  simp
theorem mid_set {α : Type} (ns L : List α) (a b : α) : (ns ++ [a] ++ L).set (ns.length : Int).toNat b = ns ++ [b] ++ L := by
  simp
theorem implAppend_ok : ∀ (t : Tr Item) (n : Nat) (ns : List Nod), t.size < n → ns.length + t.size ≤ 1000000 → M.impl_branch_appendTo n t ns = some (ns ++ nodesT t ns.length)
  | _, 0, _, h, _ => by omega
  | .nil, n + 1, ns, _, _ => by
    show M.impl_branch_appendTo_F (M.impl_branch_appendTo n) Tr.nil ns = _
    simp [M.impl_branch_appendTo_F, Tr.isNil, nodesT]
  | .node x q l r, n + 1, ns, hn, hs => by
    simp only [Tr.size] at hn hs
    show M.impl_branch_appendTo_F (M.impl_branch_appendTo n) (.node x q l r) ns = _
    unfold M.impl_branch_appendTo_F
    have g0 : ∀ a : Nod, gidx (ns ++ [a]) (ns.length : Int) = some a := fun a => by simpa using mid_get ns [] a
    have s0 : ∀ a b : Nod, (ns ++ [a]).set (ns.length : Int).toNat b = ns ++ [b] := fun a b => by simp
    have step1 : (bif !l.isNil then
        (gidx (ns ++ [((x.1, q, -1, -1) : Nod)]) (ns.length : Int)).bind fun x31 =>
        (Tr.get (.node x q l r)).bind fun x37 =>
        (M.impl_branch_appendTo n x37.2.2.1 ((ns ++ [((x.1, q, -1, -1) : Nod)]).set (ns.length : Int).toNat (x31.1, x31.2.1, ((ns ++ [((x.1, q, -1, -1) : Nod)]).length : Int), x31.2.2.2))).bind fun r45 =>
        some r45
       else
        some (ns ++ [((x.1, q, -1, -1) : Nod)])) = some (ns ++ [((x.1, q, (bif l.isNil then -1 else ((ns.length + 1 : Nat) : Int)), -1) : Nod)] ++ nodesT l (ns.length + 1)) := by
      cases hl : l.isNil with
      | true =>
        have : l = .nil := by cases l with
          | nil => rfl
          | node => cases hl
        subst this
        simp [nodesT]
      | false =>
        have e := implAppend_ok l n (ns ++ [((x.1, q, ((ns.length + 1 : Nat) : Int), -1) : Nod)]) (by omega) (by simp; omega)
        simp only [Bool.not_false, cond_true, cond_false, g0, Option.bind_some, Tr.get, s0, List.length_append, List.length_cons, List.length_nil, Nat.zero_add]
        simp only [List.length_append, List.length_cons, List.length_nil, Nat.zero_add] at e
        rw [e]; rfl
    have step2 : ∀ (nv : Int) (L : List Nod), L.length = l.size → (bif !r.isNil then
        (gidx (ns ++ [((x.1, q, nv, -1) : Nod)] ++ L) (ns.length : Int)).bind fun x64 =>
        (Tr.get (.node x q l r)).bind fun x70 =>
        (M.impl_branch_appendTo n x70.2.2.2 ((ns ++ [((x.1, q, nv, -1) : Nod)] ++ L).set (ns.length : Int).toNat (x64.1, x64.2.1, x64.2.2.1, ((ns ++ [((x.1, q, nv, -1) : Nod)] ++ L).length : Int)))).bind fun r78 =>
        some r78
       else
        some (ns ++ [((x.1, q, nv, -1) : Nod)] ++ L)) = some (ns ++ [((x.1, q, nv, (bif r.isNil then -1 else ((ns.length + 1 + L.length : Nat) : Int))) : Nod)] ++ L ++ nodesT r (ns.length + 1 + L.length)) := by
      intro nv L hL
      cases hr : r.isNil with
      | true =>
        have : r = .nil := by cases r with
          | nil => rfl
          | node => cases hr
        subst this
        simp [nodesT]
      | false =>
        have e := implAppend_ok r n (ns ++ [((x.1, q, nv, ((ns.length + 1 + L.length : Nat) : Int)) : Nod)] ++ L) (by omega) (by simp; omega)
        simp only [Bool.not_false, cond_true, cond_false, mid_get, Option.bind_some, Tr.get, mid_set, List.length_append, List.length_cons, List.length_nil, Nat.zero_add]
        simp only [List.length_append, List.length_cons, List.length_nil, Nat.zero_add] at e
        rw [e]; rfl
    have gp : gapp ns ([((x.1, q, -1, -1) : Nod)]) = some (ns ++ [((x.1, q, -1, -1) : Nod)]) := gapp_ok (by simp; omega)
    have hnil : (Tr.node x q l r).isNil = false := rfl
    have hget : Tr.get (Tr.node x q l r) = some (x, q, l, r) := rfl
    simp only [hnil, cond_false]
    simp only [hget, Option.bind_some, gp] at step1 step2 ⊢
    rw [step1]
    simp only [Option.bind_some]
    rw [step2 _ _ (nodesT_len l _)]
    simp [nodesT]
end Go.Vs

namespace Go.Vs

theorem treeF_nil {k : Int} {n : Nat} : treeF k n [] = .nil := by cases n <;> rfl
theorem treeF_isNil {k : Int} {n : Nat} {l : List Item} (h : l.length < n) : (treeF k n l).isNil = decide (l.length = 0) := by
  cases n with
  | zero => omega
  | succ n => cases l with
    | nil => rfl
    | cons x r => simp [treeF, Tr.isNil]
theorem specGrow_ok {k : Int} (hk : isKind k = true) (hc : ∀ a b : List Int, isVec a = true → isVec b = true → dist k a b = dist k b a) : ∀ (n : Nat) (l : List Item) (ns : List Nod), l.length < n → OkL l → ns.length + l.length ≤ 1000000 →
    M.spec_grow n ns l k = some (ns ++ nodesT (treeF k n l) ns.length) ∧ (treeF k n l).size = l.length
  | 0, l, _, h, _, _ => by omega
  | n + 1, [], ns, _, _, _ => by
    refine ⟨?_, rfl⟩
    show M.spec_grow_F (M.spec_grow n) ns [] k = _
    simp [M.spec_grow_F, treeF, nodesT]
  | n + 1, x :: r, ns, hl, ho, hn => by
    have hor : OkL r := ho.sub (List.sublist_cons_self x r)
    have hx := ho.vec x (by simp)
    obtain ⟨hs, _, hp, _⟩ := sortI_ok (k := k) hk hx hor
    have hsl := sortI_len (k := k) hk hx hor
    have hso := sortI_okL (k := k) hk hx hor
    have h16 := ho.len
    simp only [List.length_cons] at hl h16 hn
    generalize hS : sortI k x.2.1 r = S at hs hp hsl hso
    have e0 : (((x :: r).length : Int) == 0) = false := by simp; omega
    have eh : w64 ((w64 ((S.length : Int) + 1)).tdiv 2) = (((r.length + 1) / 2 : Nat) : Int) := by
      have a1 : w64 ((r.length : Int) + 1) = (r.length : Int) + 1 := w64_id (by omega) (by omega)
      rw [hsl, a1, Int.tdiv_eq_ediv_of_nonneg (by omega)]
      rw [w64_id (by omega) (by omega)]; omega
    have gx : gidx (x :: r) 0 = some x := rfl
    have gr : gslice (x :: r) 1 ((x :: r).length : Int) = some r := by
      rw [gslice_ok (by omega) (by simp; omega) (by simp)]; simp
    obtain ⟨H, hH⟩ : ∃ H, H = (r.length + 1) / 2 := ⟨_, rfl⟩
    rw [← hH] at eh
    have hHle : H ≤ S.length := by omega
    obtain ⟨q, hq⟩ : ∃ q : Int, q = (if h : 0 < H then (match S[H - 1]? with | some y => dist k x.2.1 y.2.1 | none => 0) else 0) := ⟨_, rfl⟩
    have ht : treeF k (n + 1) (x :: r) = .node x q (treeF k n (S.take H)) (treeF k n (S.drop H)) := by
      rw [hq, hH, ← hS]; rfl
    have i1 := fun ns' h => specGrow_ok hk hc n (S.take H) ns' (by rw [List.length_take]; omega) (hso.sub (List.take_sublist _ _)) h
    have i2 := fun ns' h => specGrow_ok hk hc n (S.drop H) ns' (by rw [List.length_drop]; omega) (hso.sub (List.drop_sublist _ _)) h
    have z1 : (treeF k n (S.take H)).size = H := by rw [(i1 [] (by simp; omega)).2, List.length_take]; omega
    have z2 : (treeF k n (S.drop H)).size = S.length - H := by rw [(i2 [] (by simp; omega)).2, List.length_drop]
    have n1 : (treeF k n (S.take H)).isNil = decide (H = 0) := by rw [treeF_isNil (by rw [List.length_take]; omega), List.length_take, Nat.min_eq_left hHle]
    have n2 : (treeF k n (S.drop H)).isNil = decide (S.length - H = 0) := by rw [treeF_isNil (by rw [List.length_drop]; omega), List.length_drop]
    refine ⟨?_, by rw [ht, Tr.size, z1, z2]; simp; omega⟩
    rw [ht]
    show M.spec_grow_F (M.spec_grow n) ns (x :: r) k = _
    unfold M.spec_grow_F
    have gp : gapp ns ([((x.1, 0, -1, -1) : Nod)]) = some (ns ++ [((x.1, 0, -1, -1) : Nod)]) := gapp_ok (by simp; omega)
    have g0 : ∀ a : Nod, gidx (ns ++ [a]) (ns.length : Int) = some a := fun a => by simpa using mid_get ns [] a
    have s0 : ∀ a b : Nod, (ns ++ [a]).set (ns.length : Int).toNat b = ns ++ [b] := fun a b => by simp
    simp only [e0, cond_false, gx, gr, Option.bind_some, hs, eh, gp]
    have step1 : (bif decide (0 < (H : Int)) then
      (gidx S (w64 ((H : Int) - 1))).bind fun x44 =>
      (M.spec_dist k x44.2.1 x.2.1).bind fun r55 =>
      (gidx (ns ++ [((x.1, 0, -1, -1) : Nod)]) (ns.length : Int)).bind fun x59 =>
      (gidx ((ns ++ [((x.1, 0, -1, -1) : Nod)]).set (ns.length : Int).toNat (x59.1, r55, x59.2.2.1, x59.2.2.2)) (ns.length : Int)).bind fun x65 =>
      (gslice S 0 (H : Int)).bind fun xs71 =>
      (M.spec_grow n (((ns ++ [((x.1, 0, -1, -1) : Nod)]).set (ns.length : Int).toNat (x59.1, r55, x59.2.2.1, x59.2.2.2)).set (ns.length : Int).toNat (x65.1, x65.2.1, (((ns ++ [((x.1, 0, -1, -1) : Nod)]).set (ns.length : Int).toNat (x59.1, r55, x59.2.2.1, x59.2.2.2)).length : Int), x65.2.2.2)) xs71 k).bind fun r79 =>
      some r79
     else
      some (ns ++ [((x.1, 0, -1, -1) : Nod)])) = some (ns ++ [((x.1, q, (bif (treeF k n (S.take H)).isNil then -1 else ((ns.length + 1 : Nat) : Int)), -1) : Nod)] ++ nodesT (treeF k n (S.take H)) (ns.length + 1)) := by
      by_cases hh : 0 < H
      · have hlt : H - 1 < S.length := by omega
        have e1 : decide (0 < (H : Int)) = true := decide_eq_true (by omega)
        have e2 : w64 ((H : Int) - 1) = ((H - 1 : Nat) : Int) := by rw [w64_id (by omega) (by omega)]; omega
        have hy := hso.vec _ (List.getElem_mem hlt)
        have hd : M.spec_dist k S[H - 1].2.1 x.2.1 = some q := by
          rw [specDist_vec hk hy hx, hc _ _ hy hx, hq, dif_pos hh, List.getElem?_eq_getElem hlt]
        have e := (i1 (ns ++ [((x.1, q, ((ns.length + 1 : Nat) : Int), -1) : Nod)]) (by simp; omega)).1
        have nn : decide (H = 0) = false := decide_eq_false (by omega)
        simp only [e1, cond_true, e2, gidx_nat hlt, Option.bind_some, hd, g0, s0]
        rw [gslice_ok (by omega) (by omega) (by omega)]
        simp only [Option.bind_some, Int.toNat_zero, List.drop_zero, Int.toNat_natCast, n1, nn, cond_false, List.length_append, List.length_cons, List.length_nil, Nat.zero_add]
        simp only [List.length_append, List.length_cons, List.length_nil, Nat.zero_add] at e
        rw [e]; rfl
      · have e1 : decide (0 < (H : Int)) = false := decide_eq_false (by omega)
        have hz : H = 0 := by omega
        have hq0 : q = 0 := by rw [hq, dif_neg hh]
        have ht0 : S.take H = [] := by rw [hz]; rfl
        simp only [e1, cond_false, ht0, treeF_nil, Tr.isNil, cond_true, hq0, nodesT, List.append_nil]
    rw [step1]
    simp only [Option.bind_some, nodesT]
    have hL := nodesT_len (treeF k n (S.take H)) (ns.length + 1)
    rw [z1] at hL
    generalize nodesT (treeF k n (S.take H)) (ns.length + 1) = L at hL ⊢
    generalize (bif (treeF k n (S.take H)).isNil then -1 else ((ns.length + 1 : Nat) : Int)) = nv
    by_cases hh : H < S.length
    · have e1 : decide ((H : Int) < (S.length : Int)) = true := decide_eq_true (by omega)
      have e := (i2 (ns ++ [((x.1, q, nv, ((ns.length + 1 + L.length : Nat) : Int)) : Nod)] ++ L) (by simp; omega)).1
      have nn : decide (S.length - H = 0) = false := decide_eq_false (by omega)
      simp only [e1, cond_true, mid_get, Option.bind_some, mid_set]
      rw [gslice_ok (by omega) (by omega) (by omega)]
      simp only [Option.bind_some, Int.toNat_natCast, List.take_length, n2, nn, cond_false, List.length_append, List.length_cons, List.length_nil, Nat.zero_add]
      simp only [List.length_append, List.length_cons, List.length_nil, Nat.zero_add] at e
      rw [e]
      simp
    · have e1 : decide ((H : Int) < (S.length : Int)) = false := decide_eq_false (by omega)
      have hd0 : S.drop H = [] := List.drop_eq_nil_of_le (by omega)
      simp only [e1, cond_false, hd0, treeF_nil, Tr.isNil, cond_true, nodesT, List.append_nil, Option.bind_some]
      simp
end Go.Vs

namespace Go.Vs

theorem okL_of {l : List Item} (ho : okStore l = true) : OkL l := by
  obtain ⟨hlen, hit, hk⟩ := okStore_iff.1 ho
  exact ⟨hlen, fun x hx => isItem_vec (hit x hx), by
    rw [List.Nodup, List.pairwise_map]
    exact hk.imp (fun h e => by omega)⟩
def isTK (k : Int) : Bool := isKind k && (k != 3)
noncomputable def nodesL (l : List Item) (k : Int) : List Nod := bif okStore l && isTK k then nodesT (treeF k 100 l) 0 else []
theorem implTK_ok (k : Int) : M.impl_validTreeKind k = some (isTK k) := by
  unfold M.impl_validTreeKind isTK
  simp only [implKind_ok, Option.bind_some]
  cases isKind k <;> rfl
theorem specTK_ok (k : Int) : M.spec_isMetric k = some (isTK k) := by
  unfold M.spec_isMetric isTK
  simp only [specKind_ok, Option.bind_some]
  cases isKind k <;> rfl
theorem isTK_kind {k : Int} (h : isTK k = true) : isKind k = true := by
  unfold isTK at h
  exact (Bool.and_eq_true_iff.1 h).1
theorem tree_size {k : Int} {l : List Item} (hk : isKind k = true) (ho : OkL l) : (treeF k 100 l).size = l.length :=
  (specGrow_ok hk (fun a b _ _ => dist_comm k a b) 100 l [] (by have := ho.len; omega) ho (by have := ho.len; simp; omega)).2
theorem implBuild_ok {l : List Item} {k : Int} (s : SmallS l) : M.impl_BuildTree l k = some (nodesL l k) := by
  unfold M.impl_BuildTree nodesL
  simp only [s.impl, Option.bind_some, implTK_ok]
  cases ho : okStore l with
  | false => rfl
  | true =>
    cases hk : isTK k with
    | false => rfl
    | true =>
      have hkk := isTK_kind hk
      have hol := okL_of ho
      have h16 := hol.len
      have hz := tree_size hkk hol
      have e := implAppend_ok (treeF k 100 l) 100 [] (by omega) (by simp; omega)
      simp only [Bool.not_true, cond_false, Option.bind_some, implGrow_ok hkk 100 l (by omega) hol, Bool.and_self, cond_true, e]
      simp
end Go.Vs

namespace Go.Vs

theorem nodesL_get {l : List Item} {k : Int} (ho : okStore l = true) (hk : isTK k = true) : nodesL l k = nodesT (treeF k 100 l) 0 := by simp [nodesL, ho, hk]
end Go.Vs

namespace Go.Vs

theorem nodEq (x y : Nod) : (([x.1, x.2.1, x.2.2.1, x.2.2.2] : List Int) == ([y.1, y.2.1, y.2.2.1, y.2.2.2] : List Int)) = (x == y) := by
  obtain ⟨a, b, c, d⟩ := x
  obtain ⟨e, f, g, h⟩ := y
  rw [Bool.eq_iff_iff]
  simp only [beq_iff_eq, List.cons.injEq, and_true, Prod.mk.injEq]
theorem equalNodes_ok {a b : List Nod} (ha : a.length < 2000000) : M.laws_equalNodes a b = some (decide (a = b)) := by
  unfold M.laws_equalNodes
  simp only [nodEq]
  by_cases hl : a.length = b.length
  · have e : ((a.length : Int) != (b.length : Int)) = false := by simp; omega
    simp only [e, cond_false]
    rw [loop_all (xs := a.zip b) (P := fun p => p.1 == p.2) (r := false)]
    · by_cases h : a = b
      · subst h
        have : (a.zip a).all (fun p => p.1 == p.2) = true := by
          rw [List.all_eq_true]; intro p hp
          obtain ⟨i, hi, rfl⟩ := List.mem_iff_getElem.1 hp
          simp
        rw [if_pos this]; simp [selim]
      · have : ¬ (a.zip b).all (fun p => p.1 == p.2) = true := by
          intro hh; apply h
          apply List.ext_getElem hl
          intro i h1 h2
          rw [List.all_eq_true] at hh
          have := hh (a[i], b[i]) (List.mem_iff_getElem.2 ⟨i, by simp; omega, by simp⟩)
          simpa using this
        rw [if_neg this]; simp [selim, h]
    · intro i hi
      have hi1 : i < a.length := by simp at hi; omega
      have hi2 : i < b.length := by simp at hi; omega
      have e1 : decide ((i : Int) < (a.length : Int)) = true := by simpa using hi1
      have e2 : w64 ((i : Int) + 1) = (i : Int) + 1 := w64_id (by omega) (by omega)
      simp only [e1, cond_true, gidx_nat hi1, gidx_nat hi2, Option.bind_some, e2, List.getElem_zip]
      cases hc : (a[i] == b[i]) <;> simp
    · have : (a.zip b).length = a.length := by simp; omega
      rw [this]; simp
  · have e : ((a.length : Int) != (b.length : Int)) = true := by simp; omega
    have : a ≠ b := fun h => hl (by rw [h])
    simp [e, this]
theorem sliceEqNodes_ok {a b : List Nod} (ha : a.length < 2000000) : M.slices_Equal_impl_Node_impl_Node a b = some (decide (a = b)) := equalNodes_ok ha
theorem sameNodes_ok {a b : List Nod} (ha : a.length < 2000000) : M.spec_sameNodes a b = some (decide (a = b)) := equalNodes_ok ha

def itemsT : Tr Item → List Item
  | .nil => []
  | .node x _ l r => x :: (itemsT l ++ itemsT r)
def Sub (L : List Nod) (t : Tr Item) (a : Nat) : Prop := ∃ pre post, L = pre ++ nodesT t a ++ post ∧ pre.length = a
theorem Sub.left {L : List Nod} {x : Item} {q : Int} {l r : Tr Item} {a : Nat} (h : Sub L (.node x q l r) a) : Sub L l (a + 1) := by
  obtain ⟨pre, post, rfl, rfl⟩ := h
  exact ⟨pre ++ (nodesT (.node x q l r) pre.length).take 1, nodesT r (pre.length + 1 + (nodesT l (pre.length + 1)).length) ++ post, by simp [nodesT], by simp [nodesT]⟩
theorem Sub.right {L : List Nod} {x : Item} {q : Int} {l r : Tr Item} {a : Nat} (h : Sub L (.node x q l r) a) : Sub L r (a + 1 + l.size) := by
  obtain ⟨pre, post, rfl, rfl⟩ := h
  exact ⟨pre ++ (nodesT (.node x q l r) pre.length).take 1 ++ nodesT l (pre.length + 1), post, by simp [nodesT, nodesT_len], by simp [nodesT, nodesT_len]; omega⟩
theorem Sub.get {L : List Nod} {x : Item} {q : Int} {l r : Tr Item} {a : Nat} (h : Sub L (.node x q l r) a) : ∃ hl : a < L.length, L[a] = (x.1, q, (bif l.isNil then -1 else ((a + 1 : Nat) : Int)), (bif r.isNil then -1 else ((a + 1 + l.size : Nat) : Int))) := by
  obtain ⟨pre, post, rfl, rfl⟩ := h
  exact ⟨by simp [nodesT], by simp [nodesT, nodesT_len]⟩
theorem Sub.gidx {L : List Nod} {x : Item} {q : Int} {l r : Tr Item} {a : Nat} (h : Sub L (.node x q l r) a) : Go.Vs.gidx L (a : Int) = some (x.1, q, (bif l.isNil then -1 else ((a + 1 : Nat) : Int)), (bif r.isNil then -1 else ((a + 1 + l.size : Nat) : Int))) := by
  obtain ⟨hl, e⟩ := h.get
  rw [gidx_nat hl, e]
theorem sub_self (t : Tr Item) : Sub (nodesT t 0) t 0 := ⟨[], [], by simp, rfl⟩

theorem implIsTree_ok {l : List Item} {k : Int} {ns : List Nod} (s : SmallS l) (hn : ns.length < 2000000) : M.impl_IsTreeOf ns l k = some (okStore l && isTK k && decide (ns = nodesL l k)) := by
  unfold M.impl_IsTreeOf
  simp only [s.impl, Option.bind_some, implTK_ok, implBuild_ok s, sliceEqNodes_ok hn]
  cases okStore l <;> cases isTK k <;> rfl
theorem specIsTree_ok {l : List Item} {k : Int} {ns : List Nod} (s : SmallS l) (hn : ns.length < 2000000) : M.spec_IsTreeOf ns l k = some (okStore l && isTK k && decide (ns = nodesL l k)) := by
  unfold M.spec_IsTreeOf
  simp only [s.specv, Option.bind_some, specTK_ok]
  cases ho : okStore l with
  | false => rfl
  | true =>
    cases hk : isTK k with
    | false => rfl
    | true =>
      have hkk := isTK_kind hk
      have hol := okL_of ho
      have h16 := hol.len
      have e := (specGrow_ok hkk (fun a b _ _ => dist_comm k a b) 100 l [] (by omega) hol (by simp; omega)).1
      simp only [cond_true, e, Option.bind_some, List.nil_append, List.length_nil, sameNodes_ok hn, nodesL_get ho hk, Bool.and_self, Bool.true_and]
end Go.Vs

namespace Go.Vs

def hitV (kd : Int) (v : List Int) (x : Item) : Hit := (x.1, dist kd x.2.1 v)
def hitsV (kd : Int) (v : List Int) (l : List Item) : List Hit := l.map (hitV kd v)
def reachH (k : Nat) (V : List Hit) : Int := if (topH k V).length < k then 1000000 else ((topH k V).getD (k - 1) (0, 0)).2
/-! ## Lists with the same nearest ones -/
def SameT (k : Nat) (U V : List Hit) : Prop := topH k U = topH k V
theorem SameT.refl (k : Nat) (U : List Hit) : SameT k U U := rfl
theorem SameT.trans {k : Nat} {U V W : List Hit} (h : SameT k U V) (g : SameT k V W) : SameT k U W := Eq.trans h g
theorem SameT.symm {k : Nat} {U V : List Hit} (h : SameT k U V) : SameT k V U := Eq.symm h
theorem SameT.perm {k : Nat} {U V : List Hit} (h : U.Perm V) : SameT k U V := by
  show topH k U = topH k V
  unfold topH
  rw [isort_uniq (isort_spec V).1 ((isort_spec V).2.trans h.symm)]
theorem SameT.reach {k : Nat} {U V : List Hit} (h : SameT k U V) : reachH k U = reachH k V := by
  unfold reachH
  rw [h]
/-! ## Trees find the nearest -/
/-! ## At how many nodes they look -/
noncomputable def vis (kd : Int) (v : List Int) (k : Nat) : Tr Item → List Hit → Nat
  | .nil, _ => 0
  | .node x q l r, P =>
    if dist kd x.2.1 v ≤ q then
      vis kd v k l (P ++ [hitV kd v x]) + 1 + (if q - dist kd x.2.1 v ≤ reachH k (P ++ [hitV kd v x] ++ hitsV kd v (itemsT l)) then vis kd v k r (P ++ [hitV kd v x] ++ hitsV kd v (itemsT l)) else 0)
    else
      vis kd v k r (P ++ [hitV kd v x]) + 1 + (if dist kd x.2.1 v - q ≤ reachH k (P ++ [hitV kd v x] ++ hitsV kd v (itemsT r)) then vis kd v k l (P ++ [hitV kd v x] ++ hitsV kd v (itemsT r)) else 0)
end Go.Vs

namespace Go.Vs

/-! ## The program's search -/
/-! ## What is answered -/
end Go.Vs

namespace Go.Vs

/-! ## Exact laws -/
theorem eqNodeS_self {a : List Nod} (h : a.length < 2000000) : M.laws_eqNodeS a a = some true := by
  unfold M.laws_eqNodeS
  simp only [bne_self_eq_false, cond_false]
  rw [loop_all (xs := a) (P := fun _ => true) (r := false)]
  · simp [selim]
  · intro i hi
    have e1 : decide ((i : Int) < (a.length : Int)) = true := by simpa using hi
    have e2 : w64 ((i : Int) + 1) = (i : Int) + 1 := w64_id (by omega) (by omega)
    simp only [e1, cond_true, gidx_nat hi, Option.bind_some, M.laws_eqNode, bne_self_eq_false, Bool.not_true, cond_false, e2, if_true]
  · simp
theorem toNodeS_ok {a : List Nod} (h : a.length ≤ 1048576) : M.laws_toNodeS a = some a := by
  unfold M.laws_toNodeS
  rw [gmake_ok (by omega) (by omega)]
  simp only [Option.bind_some, Int.toNat_natCast]
  rw [copy_loop (a := a) (g := fun x => M.laws_toNode (x.1, x.2.1, x.2.2.1, x.2.2.2)) h (fun x hx' => rfl)]
  · rfl
  · intro s i hi hi' hg
    have e1 : decide ((i : Int) < (a.length : Int)) = true := by simpa using hi
    have e2 : w64 ((i : Int) + 1) = ((i + 1 : Nat) : Int) := w64_id (by omega) (by omega)
    simp only [e1, cond_true, gidx_nat hi, gidx_nat hi', Option.bind_some, hg, e2, Int.toNat_natCast]
  · intro s; simp
theorem law_ExactIsTreeOf (ns : List Nod) (l : List Item) (kind : Int) (hns : ns.length ≤ 9223372036854775807 ∧ ∀ x ∈ ns, (True ∧ (True ∧ (True ∧ True)))) (ha : l.length ≤ 9223372036854775807 ∧ ∀ x ∈ l, (True ∧ ((x.2.1.length ≤ 9223372036854775807 ∧ ∀ y ∈ x.2.1, True) ∧ True))) : M.laws_FnExactIsTreeOf ns l kind = some true := by
  unfold M.laws_FnExactIsTreeOf M.laws_szNodeS
  have e0 : w64 (1048576 - (ns.length : Int)) = 1048576 - (ns.length : Int) := w64_id (by omega) (by omega)
  rw [e0]
  by_cases hz : 1048576 - (ns.length : Int) < 0
  · simp [hz]
  have hn1 : ns.length ≤ 1048576 := by omega
  simp only [hz, decide_false, cond_false, Option.bind_some]
  obtain ⟨s, es, hs⟩ := szItemS_ok (left := 1048576 - (ns.length : Int)) ha.1 (fun x hx => (ha.2 x hx).2.1.1) (by omega) (by omega)
  simp only [es, Option.bind_some]
  rcases hs with hs | ⟨h0, h1, h2⟩
  · simp [hs]
  have hn : ¬ s < 0 := by omega
  have hb : ∀ x ∈ l, x.2.1.length < 2000000 := fun x hx => by have := h2 x hx; omega
  have ss : SmallS l := ⟨by omega, h2⟩
  have hnl : ns.length < 2000000 := by omega
  simp only [hn, decide_false, cond_false, toNodeS_ok hn1, toItemS_ok h1 h2, Option.bind_some, specIsTree_ok ss hnl, implIsTree_ok ss hnl, bne_self_eq_false, eqNodeS_self hnl, eqItemS_self (show l.length < 2000000 by omega) hb, Bool.not_true]
end Go.Vs
