/- Plain facts of what the functions compute. -/
import Derived.Test.YtgokepoinohioacExactDistanceEng1
import Derived.Test.YtgokepoinohioacExactDistanceLib1
set_option linter.unusedVariables false
set_option linter.unusedSimpArgs false
namespace Go.Vs

theorem loop_run {S R : Type} {f : S → Option (S ⊕ R)} {r : R} (k : Nat) (st : Nat → S) (hs : ∀ i, i < k → f (st i) = some (.inl (st (i + 1)))) (he : f (st k) = some (.inr r)) : loopM f (st 0) = some r := by
  induction k generalizing st with
  | zero => rw [loopM_eq, he]; rfl
  | succ k ih =>
    rw [loopM_eq, hs 0 (by omega)]
    exact ih (fun i => st (i + 1)) (fun i hi => hs (i + 1) (by omega)) he

theorem gidx_nat {α : Type} {xs : List α} {i : Nat} (h : i < xs.length) : gidx xs (i : Int) = some xs[i] := by
  unfold gidx
  rw [if_pos (by omega)]
  simp [h]
theorem gmake_ok {α : Type} {k : Int} {z : α} (h0 : 0 ≤ k) (h1 : k ≤ 2147483648) : gmake k z = some (List.replicate k.toNat z) := by unfold gmake; rw [if_pos ⟨h0, h1⟩]
theorem garr_ok {α : Type} {k : Nat} {xs : List α} (h : k ≤ xs.length) : garr k xs = some (xs.take k) := by unfold garr; rw [if_pos h]

/-- A loop that looks at each element, and leaves at the first that fails. -/
theorem loop_all {α R : Type} {xs : List α} {P : α → Bool} {r : R} {f : Int → Option (Int ⊕ (Unit ⊕ R))} (hs : ∀ i (h : i < xs.length), f (i : Int) = some (if P xs[i] then .inl ((i : Int) + 1) else .inr (.inr r))) (he : f (xs.length : Int) = some (.inr (.inl ()))) :
    loopM f 0 = some (if xs.all P then .inl () else .inr r) := by
  have key : ∀ m k : Nat, k + m = xs.length → loopM f (k : Int) = some (if (xs.drop k).all P then .inl () else .inr r) := by
    intro m
    induction m with
    | zero =>
      intro k hk
      have : k = xs.length := by omega
      subst this
      rw [loopM_eq, he]; simp [selim]
    | succ m ih =>
      intro k hk
      have hlt : k < xs.length := by omega
      rw [loopM_eq, hs k hlt, List.drop_eq_getElem_cons hlt]
      by_cases hp : P xs[k] = true
      · rw [if_pos hp]
        have := ih (k + 1) (by omega)
        simp only [Int.natCast_add, Int.cast_ofNat_Int] at this
        simp only [List.all_cons, hp, Bool.true_and, selim, this, Option.bind_some]
      · rw [if_neg hp]
        simp only [List.all_cons, Bool.not_eq_true] at hp ⊢
        simp only [hp, Bool.false_and, selim, Option.bind_some]; rfl
  have := key xs.length 0 (by omega)
  simpa using this
end Go.Vs

namespace Go.Vs

/-- A reader that has been asked at most k times. -/
def Good (k : Nat) (r : List UInt8 × Int) : Prop := r.1.length ≤ 2000 ∧ 0 ≤ r.2 ∧ r.2 ≤ k
theorem Good.mono {k m : Nat} {r : List UInt8 × Int} (h : Good k r) (hm : k ≤ m) : Good m r := ⟨h.1, h.2.1, by have := h.2.2; omega⟩

/-- A valid vector. -/
def isVec (v : List Int) : Bool := decide (v.length = 4) && v.all fun x => decide (-100 ≤ x) && decide (x ≤ 100)
theorem isVec_iff {v : List Int} : isVec v = true ↔ v.length = 4 ∧ ∀ x ∈ v, -100 ≤ x ∧ x ≤ 100 := by
  unfold isVec; simp
theorem isVec_four {v : List Int} (h : isVec v = true) : ∃ a b c d, v = [a, b, c, d] ∧ (-100 ≤ a ∧ a ≤ 100) ∧ (-100 ≤ b ∧ b ≤ 100) ∧ (-100 ≤ c ∧ c ≤ 100) ∧ (-100 ≤ d ∧ d ≤ 100) := by
  obtain ⟨h1, h2⟩ := isVec_iff.1 h
  match v, h1 with
  | [a, b, c, d], _ => exact ⟨a, b, c, d, rfl, h2 a (by simp), h2 b (by simp), h2 c (by simp), h2 d (by simp)⟩

end Go.Vs
namespace Go.Vs
theorem implCoords_ok (v : List Int) (hb : v.length < 2000000) : M.impl_validCoords v = some (v.all fun x => decide (-100 ≤ x) && decide (x ≤ 100)) := by
  unfold M.impl_validCoords
  rw [loop_all (xs := v) (P := fun x => decide (-100 ≤ x) && decide (x ≤ 100)) (r := false)]
  · by_cases ha : (v.all fun x => decide (-100 ≤ x) && decide (x ≤ 100)) = true
    · simp only [ha, if_true, Option.bind_some, selim]
    · simp only [Bool.not_eq_true] at ha
      simp only [ha]; simp [selim]
  · intro i h
    have e1 : decide ((i : Int) < (v.length : Int)) = true := by simpa using h
    have e2 : w64 ((i : Int) + 1) = (i : Int) + 1 := w64_id (by omega) (by omega)
    simp only [e1, cond_true, gidx_nat h, Option.bind_some, e2]
    by_cases c1 : v[i] < -100
    · have c2 : ¬ (-100 ≤ v[i]) := by omega
      simp [c1, c2]
    · by_cases c3 : 100 < v[i]
      · have c4 : ¬ (v[i] ≤ 100) := by omega
        simp [c1, c3, c4]
      · simp [c1, c3, show -100 ≤ v[i] by omega, show v[i] ≤ 100 by omega]
  · simp
theorem impl_valid (v : List Int) (hb : v.length < 2000000) : M.impl_ValidVector v = some (isVec v) := by
  unfold M.impl_ValidVector
  simp only [implCoords_ok v hb, Option.bind_some]
  unfold isVec
  by_cases hl : v.length = 4
  · have e : ((v.length : Int) == 4) = true := by simp; omega
    rw [e, cond_true, decide_eq_true hl, Bool.true_and]
  · have e : ((v.length : Int) == 4) = false := by simp; omega
    rw [e, cond_false, decide_eq_false hl, Bool.false_and]
theorem spec_inR (n l h : Int) : M.spec_inRange n l h = some (decide (l ≤ n) && decide (n ≤ h)) := by
  unfold M.spec_inRange
  by_cases h1 : l ≤ n <;> simp [h1]
theorem spec_all (v : List Int) (l h : Int) (hb : v.length < 2000000) : M.spec_allIn v l h = some (v.all fun x => decide (l ≤ x) && decide (x ≤ h)) := by
  unfold M.spec_allIn
  rw [loop_all (xs := v) (P := fun x => decide (l ≤ x) && decide (x ≤ h)) (r := false)]
  · by_cases ha : (v.all fun x => decide (l ≤ x) && decide (x ≤ h)) = true
    · simp only [ha, if_true, Option.bind_some, selim]
    · simp only [Bool.not_eq_true] at ha
      simp [ha, selim]
  · intro i hi
    have e1 : decide ((i : Int) < (v.length : Int)) = true := by simpa using hi
    have e2 : w64 ((i : Int) + 1) = (i : Int) + 1 := w64_id (by omega) (by omega)
    simp only [e1, cond_true, gidx_nat hi, Option.bind_some, e2, spec_inR]
    cases (decide (l ≤ v[i]) && decide (v[i] ≤ h)) <;> rfl
  · simp
theorem spec_isVec (v : List Int) (hb : v.length < 2000000) : M.spec_isVector v = some (isVec v) := by
  unfold M.spec_isVector
  by_cases hl : v.length = 4
  · have e : ((v.length : Int) == 4) = true := by simp; omega
    simp [e, spec_all v _ _ hb, isVec, hl]
  · have e : ((v.length : Int) == 4) = false := by simp; omega
    simp [e, isVec, hl]
end Go.Vs

namespace Go.Vs

end Go.Vs

namespace Go.Vs

theorem loop4 {S R : Type} {f : S → Option (S ⊕ R)} {s0 s1 s2 s3 s4 : S} {r : R} (h0 : f s0 = some (.inl s1)) (h1 : f s1 = some (.inl s2)) (h2 : f s2 = some (.inl s3)) (h3 : f s3 = some (.inl s4)) (h4 : f s4 = some (.inr r)) : loopM f s0 = some r := by
  rw [loopM_eq, h0, Option.bind_some, selim, loopM_eq, h1, Option.bind_some, selim, loopM_eq, h2, Option.bind_some, selim, loopM_eq, h3, Option.bind_some, selim, loopM_eq, h4]; rfl
theorem gi0 {α : Type} {a : α} {l : List α} : gidx (a :: l) 0 = some a := gidx_nat (i := 0) (by simp)
theorem gi1 {α : Type} {a b : α} {l : List α} : gidx (a :: b :: l) 1 = some b := gidx_nat (i := 1) (by simp)
theorem gi2 {α : Type} {a b c : α} {l : List α} : gidx (a :: b :: c :: l) 2 = some c := gidx_nat (i := 2) (by simp)
theorem gi3 {α : Type} {a b c d : α} {l : List α} : gidx (a :: b :: c :: d :: l) 3 = some d := gidx_nat (i := 3) (by simp)
theorem i01 : w64 ((0 : Int) + 1) = 1 := w64_id (by omega) (by omega)
theorem i12 : w64 ((1 : Int) + 1) = 2 := w64_id (by omega) (by omega)
theorem i23 : w64 ((2 : Int) + 1) = 3 := w64_id (by omega) (by omega)
theorem i34 : w64 ((3 : Int) + 1) = 4 := w64_id (by omega) (by omega)
theorem d04 : decide ((0 : Int) < 4) = true := rfl
theorem d14 : decide ((1 : Int) < 4) = true := rfl
theorem d24 : decide ((2 : Int) < 4) = true := rfl
theorem d34 : decide ((3 : Int) < 4) = true := rfl
theorem d44 : decide ((4 : Int) < 4) = false := rfl
theorem l4 {α : Type} {a b c d : α} : (([a, b, c, d] : List α).length : Int) = 4 := rfl

/-- How far two coordinates lie apart. -/
def gap (x y : Int) : Int := max (x - y) (y - x)
theorem gap_nonneg (x y : Int) : 0 ≤ gap x y := by unfold gap; omega
/-- A coordinate. -/
def Co (x : Int) : Prop := -100 ≤ x ∧ x ≤ 100
theorem gap_le {x y : Int} (hx : Co x) (hy : Co y) : gap x y ≤ 200 := by unfold gap; unfold Co at hx hy; omega
theorem sq_bounds {g : Int} (h0 : 0 ≤ g) (h : g ≤ 200) : 0 ≤ g * g ∧ g ≤ g * g ∧ g * g ≤ 40000 := by
  refine ⟨Int.mul_nonneg h0 h0, ?_, ?_⟩
  · by_cases h1 : g = 0
    · subst h1; simp
    · have := Int.mul_le_mul_of_nonneg_right (show (1 : Int) ≤ g by omega) h0; omega
  · have := Int.mul_le_mul h h h0 (by omega); omega
/-- The distance of a kind, from the gaps. -/
def dk (k g0 g1 g2 g3 : Int) : Int :=
  if k = 1 then g0 + g1 + g2 + g3 else if k = 2 then max (max (max (max 0 g0) g1) g2) g3 else if k = 3 then g0 * g0 + g1 * g1 + g2 * g2 + g3 * g3 else if k = 4 then min g0 1 + min g1 1 + min g2 1 + min g3 1 else -1

theorem distanceOf_ok (k : Int) {g0 g1 g2 g3 : Int} (h0 : 0 ≤ g0) (h0' : g0 ≤ 200) (h1 : 0 ≤ g1) (h1' : g1 ≤ 200) (h2 : 0 ≤ g2) (h2' : g2 ≤ 200) (h3 : 0 ≤ g3) (h3' : g3 ≤ 200) :
    M.impl_distanceOf k [g0, g1, g2, g3] = some (dk k g0 g1 g2 g3) := by
  unfold M.impl_distanceOf
  have s0 := sq_bounds h0 h0'
  have s1 := sq_bounds h1 h1'
  have s2 := sq_bounds h2 h2'
  have s3 := sq_bounds h3 h3'
  by_cases k1 : k = 1
  · subst k1
    have e0 : w64 (0 + g0) = g0 := by rw [w64_id (by omega) (by omega)]; omega
    have e1 : w64 (g0 + g1) = g0 + g1 := w64_id (by omega) (by omega)
    have e2 : w64 (g0 + g1 + g2) = g0 + g1 + g2 := w64_id (by omega) (by omega)
    have e3 : w64 (g0 + g1 + g2 + g3) = g0 + g1 + g2 + g3 := w64_id (by omega) (by omega)
    rw [loop4 (s1 := (g0, 1)) (s2 := (g0 + g1, 2)) (s3 := (g0 + g1 + g2, 3)) (s4 := (g0 + g1 + g2 + g3, 4)) (r := .inl (g0 + g1 + g2 + g3))]
    · rfl
    · simp only [d04, gi0, i01, e0, selim, cond_true, Option.bind_some]; rfl
    · simp only [d14, gi1, i12, e1, selim, cond_true, Option.bind_some]; rfl
    · simp only [d24, gi2, i23, e2, selim, cond_true, Option.bind_some]; rfl
    · simp only [d34, gi3, i34, e3, selim, cond_true, Option.bind_some]; rfl
    · simp [d44]
  by_cases k2 : k = 2
  · subst k2
    rw [loop4 (s1 := (max 0 g0, 1)) (s2 := (max (max 0 g0) g1, 2)) (s3 := (max (max (max 0 g0) g1) g2, 3)) (s4 := (max (max (max (max 0 g0) g1) g2) g3, 4)) (r := .inl (max (max (max (max 0 g0) g1) g2) g3))]
    · rfl
    · simp only [d04, gi0, i01, selim, cond_true, Option.bind_some]; rfl
    · simp only [d14, gi1, i12, selim, cond_true, Option.bind_some]; rfl
    · simp only [d24, gi2, i23, selim, cond_true, Option.bind_some]; rfl
    · simp only [d34, gi3, i34, selim, cond_true, Option.bind_some]; rfl
    · simp [d44]
  by_cases k3 : k = 3
  · subst k3
    have q0 : w64 (g0 * g0) = g0 * g0 := w64_id (by omega) (by omega)
    have q1 : w64 (g1 * g1) = g1 * g1 := w64_id (by omega) (by omega)
    have q2 : w64 (g2 * g2) = g2 * g2 := w64_id (by omega) (by omega)
    have q3 : w64 (g3 * g3) = g3 * g3 := w64_id (by omega) (by omega)
    have e0 : w64 (0 + g0 * g0) = g0 * g0 := by rw [w64_id (by omega) (by omega)]; omega
    have e1 : w64 (g0 * g0 + g1 * g1) = g0 * g0 + g1 * g1 := w64_id (by omega) (by omega)
    have e2 : w64 (g0 * g0 + g1 * g1 + g2 * g2) = g0 * g0 + g1 * g1 + g2 * g2 := w64_id (by omega) (by omega)
    have e3 : w64 (g0 * g0 + g1 * g1 + g2 * g2 + g3 * g3) = g0 * g0 + g1 * g1 + g2 * g2 + g3 * g3 := w64_id (by omega) (by omega)
    rw [loop4 (s1 := (g0 * g0, 1)) (s2 := (g0 * g0 + g1 * g1, 2)) (s3 := (g0 * g0 + g1 * g1 + g2 * g2, 3)) (s4 := (g0 * g0 + g1 * g1 + g2 * g2 + g3 * g3, 4)) (r := .inl (g0 * g0 + g1 * g1 + g2 * g2 + g3 * g3))]
    · rfl
    · simp only [d04, gi0, i01, e0, q0, selim, cond_true, Option.bind_some]; rfl
    · simp only [d14, gi1, i12, e1, q1, selim, cond_true, Option.bind_some]; rfl
    · simp only [d24, gi2, i23, e2, q2, selim, cond_true, Option.bind_some]; rfl
    · simp only [d34, gi3, i34, e3, q3, selim, cond_true, Option.bind_some]; rfl
    · simp [d44]
  by_cases k4 : k = 4
  · subst k4
    have e0 : w64 (0 + min g0 1) = min g0 1 := by rw [w64_id (by omega) (by omega)]; omega
    have e1 : w64 (min g0 1 + min g1 1) = min g0 1 + min g1 1 := w64_id (by omega) (by omega)
    have e2 : w64 (min g0 1 + min g1 1 + min g2 1) = min g0 1 + min g1 1 + min g2 1 := w64_id (by omega) (by omega)
    have e3 : w64 (min g0 1 + min g1 1 + min g2 1 + min g3 1) = min g0 1 + min g1 1 + min g2 1 + min g3 1 := w64_id (by omega) (by omega)
    rw [loop4 (s1 := (min g0 1, 1)) (s2 := (min g0 1 + min g1 1, 2)) (s3 := (min g0 1 + min g1 1 + min g2 1, 3)) (s4 := (min g0 1 + min g1 1 + min g2 1 + min g3 1, 4)) (r := .inl (min g0 1 + min g1 1 + min g2 1 + min g3 1))]
    · rfl
    · simp only [d04, gi0, i01, e0, selim, cond_true, Option.bind_some]; rfl
    · simp only [d14, gi1, i12, e1, selim, cond_true, Option.bind_some]; rfl
    · simp only [d24, gi2, i23, e2, selim, cond_true, Option.bind_some]; rfl
    · simp only [d34, gi3, i34, e3, selim, cond_true, Option.bind_some]; rfl
    · simp [d44]
  have b1 : (k == 1) = false := by simpa using k1
  have b2 : (k == 2) = false := by simpa using k2
  have b3 : (k == 3) = false := by simpa using k3
  have b4 : (k == 4) = false := by simpa using k4
  rw [loopM_eq]
  simp [d04, gi0, b1, b2, b3, b4, selim, dk, k1, k2, k3, k4]

theorem gapsOf_ok {a b c d x y z w : Int} (ha : Co a) (hb : Co b) (hc : Co c) (hd : Co d) (hx : Co x) (hy : Co y) (hz : Co z) (hw : Co w) :
    M.impl_gapsOf [a, b, c, d] [x, y, z, w] = some [gap a x, gap b y, gap c z, gap d w] := by
  have e : ∀ p q, Co p → Co q → max (w64 (p - q)) (w64 (q - p)) = gap p q := by
    intro p q hp hq
    unfold Co at hp hq
    rw [w64_id (n := p - q) (by omega) (by omega), w64_id (n := q - p) (by omega) (by omega)]; rfl
  unfold M.impl_gapsOf
  rw [loop4 (s1 := ([gap a x, 0, 0, 0], 1)) (s2 := ([gap a x, gap b y, 0, 0], 2)) (s3 := ([gap a x, gap b y, gap c z, 0], 3)) (s4 := ([gap a x, gap b y, gap c z, gap d w], 4)) (r := [gap a x, gap b y, gap c z, gap d w])]
  · rfl
  · simp only [show List.replicate 4 (0 : Int) = [0, 0, 0, 0] from rfl, d04, gi0, i01, cond_true, Option.bind_some, e a x ha hx]; rfl
  · simp only [d14, gi1, i12, cond_true, Option.bind_some, e b y hb hy]; rfl
  · simp only [d24, gi2, i23, cond_true, Option.bind_some, e c z hc hz]; rfl
  · simp only [d34, gi3, i34, cond_true, Option.bind_some, e d w hd hw]; rfl
  · simp only [d44, cond_false]

theorem specDist_ok {k : Int} (hk : 1 ≤ k ∧ k ≤ 4) {a b c d x y z w : Int} (ha : Co a) (hb : Co b) (hc : Co c) (hd : Co d) (hx : Co x) (hy : Co y) (hz : Co z) (hw : Co w) :
    M.spec_dist k [a, b, c, d] [x, y, z, w] = some (dk k (gap a x) (gap b y) (gap c z) (gap d w)) := by
  have e : ∀ p q, Co p → Co q → M.spec_size (w64 (p - q)) = some (gap p q) := by
    intro p q hp hq
    unfold Co at hp hq
    unfold M.spec_size
    rw [w64_id (n := p - q) (by omega) (by omega), w64_id (n := 0 - (p - q)) (by omega) (by omega)]
    unfold gap
    congr 1; omega
  have t : ∀ g : Int, 0 ≤ g → M.spec_toInt (decide (0 < g)) = some (min g 1) := by
    intro g hg
    unfold M.spec_toInt
    by_cases h : 0 < g
    · simp [h]; omega
    · simp [h]; omega
  have ea := e a x ha hx
  have eb := e b y hb hy
  have ec := e c z hc hz
  have ed := e d w hd hw
  have h0 := gap_nonneg a x
  have h1 := gap_nonneg b y
  have h2 := gap_nonneg c z
  have h3 := gap_nonneg d w
  have h0' := gap_le ha hx
  have h1' := gap_le hb hy
  have h2' := gap_le hc hz
  have h3' := gap_le hd hw
  generalize gap a x = g0 at *
  generalize gap b y = g1 at *
  generalize gap c z = g2 at *
  generalize gap d w = g3 at *
  have s0 := sq_bounds h0 h0'
  have s1 := sq_bounds h1 h1'
  have s2 := sq_bounds h2 h2'
  have s3 := sq_bounds h3 h3'
  unfold M.spec_dist
  by_cases k1 : k = 1
  · subst k1
    have e0 : w64 (0 + g0) = g0 := by rw [w64_id (by omega) (by omega)]; omega
    have e1 : w64 (g0 + g1) = g0 + g1 := w64_id (by omega) (by omega)
    have e2 : w64 (g0 + g1 + g2) = g0 + g1 + g2 := w64_id (by omega) (by omega)
    have e3 : w64 (g0 + g1 + g2 + g3) = g0 + g1 + g2 + g3 := w64_id (by omega) (by omega)
    rw [loop4 (s1 := (g0, 1)) (s2 := (g0 + g1, 2)) (s3 := (g0 + g1 + g2, 3)) (s4 := (g0 + g1 + g2 + g3, 4)) (r := g0 + g1 + g2 + g3)]
    · rfl
    · simp only [l4, d04, gi0, i01, e0, ea, cond_true, Option.bind_some]; rfl
    · simp only [l4, d14, gi1, i12, e1, eb, cond_true, Option.bind_some]; rfl
    · simp only [l4, d24, gi2, i23, e2, ec, cond_true, Option.bind_some]; rfl
    · simp only [l4, d34, gi3, i34, e3, ed, cond_true, Option.bind_some]; rfl
    · simp [l4, d44]
  by_cases k2 : k = 2
  · subst k2
    rw [loop4 (s1 := (max 0 g0, 1)) (s2 := (max (max 0 g0) g1, 2)) (s3 := (max (max (max 0 g0) g1) g2, 3)) (s4 := (max (max (max (max 0 g0) g1) g2) g3, 4)) (r := max (max (max (max 0 g0) g1) g2) g3)]
    · rfl
    · simp only [l4, d04, gi0, i01, ea, cond_true, Option.bind_some]; rfl
    · simp only [l4, d14, gi1, i12, eb, cond_true, Option.bind_some]; rfl
    · simp only [l4, d24, gi2, i23, ec, cond_true, Option.bind_some]; rfl
    · simp only [l4, d34, gi3, i34, ed, cond_true, Option.bind_some]; rfl
    · simp [l4, d44]
  by_cases k3 : k = 3
  · subst k3
    have q0 : w64 (g0 * g0) = g0 * g0 := w64_id (by omega) (by omega)
    have q1 : w64 (g1 * g1) = g1 * g1 := w64_id (by omega) (by omega)
    have q2 : w64 (g2 * g2) = g2 * g2 := w64_id (by omega) (by omega)
    have q3 : w64 (g3 * g3) = g3 * g3 := w64_id (by omega) (by omega)
    have e0 : w64 (0 + g0 * g0) = g0 * g0 := by rw [w64_id (by omega) (by omega)]; omega
    have e1 : w64 (g0 * g0 + g1 * g1) = g0 * g0 + g1 * g1 := w64_id (by omega) (by omega)
    have e2 : w64 (g0 * g0 + g1 * g1 + g2 * g2) = g0 * g0 + g1 * g1 + g2 * g2 := w64_id (by omega) (by omega)
    have e3 : w64 (g0 * g0 + g1 * g1 + g2 * g2 + g3 * g3) = g0 * g0 + g1 * g1 + g2 * g2 + g3 * g3 := w64_id (by omega) (by omega)
    rw [loop4 (s1 := (g0 * g0, 1)) (s2 := (g0 * g0 + g1 * g1, 2)) (s3 := (g0 * g0 + g1 * g1 + g2 * g2, 3)) (s4 := (g0 * g0 + g1 * g1 + g2 * g2 + g3 * g3, 4)) (r := g0 * g0 + g1 * g1 + g2 * g2 + g3 * g3)]
    · rfl
    · simp only [l4, d04, gi0, i01, e0, q0, ea, cond_true, Option.bind_some]; rfl
    · simp only [l4, d14, gi1, i12, e1, q1, eb, cond_true, Option.bind_some]; rfl
    · simp only [l4, d24, gi2, i23, e2, q2, ec, cond_true, Option.bind_some]; rfl
    · simp only [l4, d34, gi3, i34, e3, q3, ed, cond_true, Option.bind_some]; rfl
    · simp [l4, d44]
  · have k4 : k = 4 := by omega
    subst k4
    have e0 : w64 (0 + min g0 1) = min g0 1 := by rw [w64_id (by omega) (by omega)]; omega
    have e1 : w64 (min g0 1 + min g1 1) = min g0 1 + min g1 1 := w64_id (by omega) (by omega)
    have e2 : w64 (min g0 1 + min g1 1 + min g2 1) = min g0 1 + min g1 1 + min g2 1 := w64_id (by omega) (by omega)
    have e3 : w64 (min g0 1 + min g1 1 + min g2 1 + min g3 1) = min g0 1 + min g1 1 + min g2 1 + min g3 1 := w64_id (by omega) (by omega)
    rw [loop4 (s1 := (min g0 1, 1)) (s2 := (min g0 1 + min g1 1, 2)) (s3 := (min g0 1 + min g1 1 + min g2 1, 3)) (s4 := (min g0 1 + min g1 1 + min g2 1 + min g3 1, 4)) (r := min g0 1 + min g1 1 + min g2 1 + min g3 1)]
    · rfl
    · simp only [l4, d04, gi0, i01, e0, ea, t g0 h0, cond_true, Option.bind_some]; simp only [show ((4 : Int) == 1) = false from rfl, show ((4 : Int) == 2) = false from rfl, show ((4 : Int) == 3) = false from rfl, cond_false, Option.bind_some, t g0 h0, e0]
    · simp only [l4, d14, gi1, i12, e1, eb, t g1 h1, cond_true, Option.bind_some]; simp only [show ((4 : Int) == 1) = false from rfl, show ((4 : Int) == 2) = false from rfl, show ((4 : Int) == 3) = false from rfl, cond_false, Option.bind_some, t g1 h1, e1]
    · simp only [l4, d24, gi2, i23, e2, ec, t g2 h2, cond_true, Option.bind_some]; simp only [show ((4 : Int) == 1) = false from rfl, show ((4 : Int) == 2) = false from rfl, show ((4 : Int) == 3) = false from rfl, cond_false, Option.bind_some, t g2 h2, e2]
    · simp only [l4, d34, gi3, i34, e3, ed, t g3 h3, cond_true, Option.bind_some]; simp only [show ((4 : Int) == 1) = false from rfl, show ((4 : Int) == 2) = false from rfl, show ((4 : Int) == 3) = false from rfl, cond_false, Option.bind_some, t g3 h3, e3]
    · simp [l4, d44]
end Go.Vs

namespace Go.Vs

/-- What Distance answers. -/
def dist (k : Int) (a b : List Int) : Int :=
  if isVec a = true ∧ isVec b = true then dk k (gap (a.getD 0 0) (b.getD 0 0)) (gap (a.getD 1 0) (b.getD 1 0)) (gap (a.getD 2 0) (b.getD 2 0)) (gap (a.getD 3 0) (b.getD 3 0)) else -1
theorem dist_vec {k : Int} {a b c d x y z w : Int} (ha : isVec [a, b, c, d] = true) (hb : isVec [x, y, z, w] = true) : dist k [a, b, c, d] [x, y, z, w] = dk k (gap a x) (gap b y) (gap c z) (gap d w) := by
  unfold dist; rw [if_pos ⟨ha, hb⟩]; rfl
theorem isVec_cut {v : List Int} (h : isVec v = true) : ∃ a b c d, v = [a, b, c, d] ∧ Co a ∧ Co b ∧ Co c ∧ Co d := isVec_four h

theorem implDistance_ok (k : Int) {a b : List Int} (ha : a.length < 2000000) (hb : b.length < 2000000) : M.impl_Distance k a b = some (dist k a b) := by
  unfold M.impl_Distance
  simp only [impl_valid a ha, Option.bind_some]
  by_cases va : isVec a = true
  · simp only [va, Bool.not_true, cond_false, impl_valid b hb, Option.bind_some]
    by_cases vb : isVec b = true
    · simp only [vb, Bool.not_true, cond_false]
      obtain ⟨x0, x1, x2, x3, rfl, c0, c1, c2, c3⟩ := isVec_cut va
      obtain ⟨y0, y1, y2, y3, rfl, e0, e1, e2, e3⟩ := isVec_cut vb
      rw [dist_vec va vb, garr_ok (by simp), garr_ok (by simp)]
      simp only [Option.bind_some, List.take_succ_cons, List.take_zero, gapsOf_ok c0 c1 c2 c3 e0 e1 e2 e3]
      rw [distanceOf_ok k (gap_nonneg _ _) (gap_le c0 e0) (gap_nonneg _ _) (gap_le c1 e1) (gap_nonneg _ _) (gap_le c2 e2) (gap_nonneg _ _) (gap_le c3 e3)]
      rfl
    · have vb' : isVec b = false := by simpa using vb
      simp [vb', dist]
  · have va' : isVec a = false := by simpa using va
    simp [va', dist]
theorem specDistance_ok (k : Int) {a b : List Int} (ha : a.length < 2000000) (hb : b.length < 2000000) : M.spec_Distance k a b = some (dist k a b) := by
  unfold M.spec_Distance M.spec_validKind
  simp only [spec_inR, Option.bind_some]
  by_cases hk : 1 ≤ k ∧ k ≤ 4
  · simp only [hk.1, hk.2, decide_true, Bool.and_self, Bool.not_true, cond_false, spec_isVec a ha, Option.bind_some]
    by_cases va : isVec a = true
    · simp only [va, Bool.not_true, cond_false, spec_isVec b hb, Option.bind_some]
      by_cases vb : isVec b = true
      · simp only [vb, Bool.not_true, cond_false]
        obtain ⟨x0, x1, x2, x3, rfl, c0, c1, c2, c3⟩ := isVec_cut va
        obtain ⟨y0, y1, y2, y3, rfl, e0, e1, e2, e3⟩ := isVec_cut vb
        rw [dist_vec va vb, specDist_ok hk c0 c1 c2 c3 e0 e1 e2 e3]; rfl
      · have vb' : isVec b = false := by simpa using vb
        simp [vb', dist]
    · have va' : isVec a = false := by simpa using va
      simp [va', dist]
  · have e : (decide (1 ≤ k) && decide (k ≤ 4)) = false := by simp; omega
    have : dist k a b = -1 := by
      unfold dist
      split
      · unfold dk
        rw [if_neg (by omega), if_neg (by omega), if_neg (by omega), if_neg (by omega)]
      · rfl
    simp [e, this]

theorem equalInts_ok {a b : List Int} (ha : a.length < 2000000) : M.laws_equalInts a b = some (decide (a = b)) := by
  unfold M.laws_equalInts
  by_cases hl : a.length = b.length
  · have e : ((a.length : Int) != (b.length : Int)) = false := by simp; omega
    simp only [e, cond_false]
    rw [loop_all (xs := a.zip b) (P := fun p => p.1 == p.2) (r := false)]
    · by_cases h : a = b
      · subst h
        have : (a.zip a).all (fun p => p.1 == p.2) = true := by
          rw [List.all_eq_true]; intro p hp
          obtain ⟨i, hi, rfl⟩ := List.mem_iff_getElem.1 hp
          simp
        rw [if_pos this]; simp [selim]
      · have : ¬ (a.zip b).all (fun p => p.1 == p.2) = true := by
          intro hh; apply h
          apply List.ext_getElem hl
          intro i h1 h2
          rw [List.all_eq_true] at hh
          have := hh (a[i], b[i]) (List.mem_iff_getElem.2 ⟨i, by simp; omega, by simp⟩)
          simpa using this
        rw [if_neg this]; simp [selim, h]
    · intro i hi
      have hi1 : i < a.length := by simp at hi; omega
      have hi2 : i < b.length := by simp at hi; omega
      have e1 : decide ((i : Int) < (a.length : Int)) = true := by simpa using hi1
      have e2 : w64 ((i : Int) + 1) = (i : Int) + 1 := w64_id (by omega) (by omega)
      simp only [e1, cond_true, gidx_nat hi1, gidx_nat hi2, Option.bind_some, e2, List.getElem_zip]
      by_cases hc : a[i] = b[i]
      · simp [hc]
      · have hb : (a[i] == b[i]) = false := by simpa using hc
        have hb' : (a[i] != b[i]) = true := by simpa using hc
        simp [hb, hb']
    · have : (a.zip b).length = a.length := by simp; omega
      rw [this]; simp
  · have e : ((a.length : Int) != (b.length : Int)) = true := by simp; omega
    have : a ≠ b := fun h => hl (by rw [h])
    simp [e, this]

/-- Gaps of two vectors. -/
structure Gaps (g0 g1 g2 g3 : Int) : Prop where
  n0 : 0 ≤ g0
  n1 : 0 ≤ g1
  n2 : 0 ≤ g2
  n3 : 0 ≤ g3
  m0 : g0 ≤ 200
  m1 : g1 ≤ 200
  m2 : g2 ≤ 200
  m3 : g3 ≤ 200
end Go.Vs

namespace Go.Vs

end Go.Vs

namespace Go.Vs

end Go.Vs

namespace Go.Vs

end Go.Vs

namespace Go.Vs

end Go.Vs

namespace Go.Vs

theorem toIntS_ok {a : List Int} (h : a.length ≤ 1048576) : M.laws_toIntS a = some a := by
  unfold M.laws_toIntS
  rw [gmake_ok (by omega) (by omega)]
  simp only [Option.bind_some, Int.toNat_natCast]
  have hloop := loop_run (R := List Int) (f := fun (s10 : (List Int) × (Int)) => (bif decide (s10.2 < (a.length : Int)) then
  (gidx a s10.2).bind fun x18 =>
  (gidx s10.1 s10.2).bind fun x23 =>
  some (.inl ((s10.1.set s10.2.toNat x18), w64 (s10.2 + 1)))
 else
  some (.inr s10.1))) (r := a) a.length (fun i => (a.take i ++ List.replicate (a.length - i) 0, (i : Int))) (by
    intro i hi
    have e1 : decide ((i : Int) < (a.length : Int)) = true := by simpa using hi
    have e2 : w64 ((i : Int) + 1) = ((i + 1 : Nat) : Int) := w64_id (by omega) (by omega)
    have hl : i < (a.take i ++ List.replicate (a.length - i) (0 : Int)).length := by simp; omega
    simp only [e1, cond_true, gidx_nat hi, gidx_nat hl, Option.bind_some, e2, Int.toNat_natCast, Option.some.injEq, Sum.inl.injEq, Prod.mk.injEq, and_true]
    rw [List.take_succ_eq_append_getElem hi]
    have hr : List.replicate (a.length - i) (0 : Int) = 0 :: List.replicate (a.length - (i + 1)) 0 := by
      rw [show a.length - i = (a.length - (i + 1)) + 1 by omega, List.replicate_succ]
    rw [hr, List.set_append_right _ _ (by simp; omega)]
    have : i - (a.take i).length = 0 := by simp; omega
    rw [this]; simp only [List.set_cons_zero, List.append_assoc, List.cons_append, List.nil_append]) (by
    have e1 : decide (((a.length : Nat) : Int) < (a.length : Int)) = false := by simp
    simp only [e1, cond_false, List.take_length, Nat.sub_self, List.replicate_zero, List.append_nil])
  simp only [List.take_zero, List.nil_append, Nat.sub_zero, Int.cast_ofNat_Int] at hloop
  rw [hloop]; rfl
theorem eqIntS_ok {a b : List Int} (ha : a.length < 2000000) : M.laws_eqIntS a b = some (decide (a = b)) := equalInts_ok ha

theorem law_ExactDistance (k : Int) (a b : List Int) : M.laws_FnExactDistance k a b = some true := by
  unfold M.laws_FnExactDistance
  by_cases hc : 1048576 < (a.length : Int)
  · simp [hc]
  by_cases hd : 1048576 < (b.length : Int)
  · simp [hc, hd]
  have la : a.length ≤ 1048576 := by omega
  have lb : b.length ≤ 1048576 := by omega
  simp only [hc, hd, decide_false, cond_false, toIntS_ok la, toIntS_ok lb, Option.bind_some, implDistance_ok k (show a.length < 2000000 by omega) (show b.length < 2000000 by omega), specDistance_ok k (show a.length < 2000000 by omega) (show b.length < 2000000 by omega), bne_self_eq_false, eqIntS_ok (show a.length < 2000000 by omega), eqIntS_ok (show b.length < 2000000 by omega), decide_true, Bool.not_true]
end Go.Vs
