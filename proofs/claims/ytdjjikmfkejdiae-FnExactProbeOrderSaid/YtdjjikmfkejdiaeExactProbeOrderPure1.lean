/- Plain facts of what the functions compute. -/
import Derived.Test.YtdjjikmfkejdiaeExactProbeOrderEng1
import Derived.Test.YtdjjikmfkejdiaeExactProbeOrderLib1
set_option linter.unusedVariables false
set_option linter.unusedSimpArgs false
namespace Go.Vs

theorem loop_run {S R : Type} {f : S → Option (S ⊕ R)} {r : R} (k : Nat) (st : Nat → S) (hs : ∀ i, i < k → f (st i) = some (.inl (st (i + 1)))) (he : f (st k) = some (.inr r)) : loopM f (st 0) = some r := by
  induction k generalizing st with
  | zero => rw [loopM_eq, he]; rfl
  | succ k ih =>
    rw [loopM_eq, hs 0 (by omega)]
    exact ih (fun i => st (i + 1)) (fun i hi => hs (i + 1) (by omega)) he

theorem gidx_nat {α : Type} {xs : List α} {i : Nat} (h : i < xs.length) : gidx xs (i : Int) = some xs[i] := by
  unfold gidx
  rw [if_pos (by omega)]
  simp [h]
theorem gapp_ok {α : Type} {xs ys : List α} (h : xs.length + ys.length ≤ 2147483648) : gapp xs ys = some (xs ++ ys) := by unfold gapp; rw [if_pos h]
theorem gslice_ok {α : Type} {xs : List α} {l h : Int} (h0 : 0 ≤ l) (h1 : l ≤ h) (h2 : h ≤ xs.length) : gslice xs l h = some ((xs.take h.toNat).drop l.toNat) := by
  unfold gslice; rw [if_pos ⟨h0, h1, h2⟩]
theorem gmake_ok {α : Type} {k : Int} {z : α} (h0 : 0 ≤ k) (h1 : k ≤ 2147483648) : gmake k z = some (List.replicate k.toNat z) := by unfold gmake; rw [if_pos ⟨h0, h1⟩]
theorem garr_ok {α : Type} {k : Nat} {xs : List α} (h : k ≤ xs.length) : garr k xs = some (xs.take k) := by unfold garr; rw [if_pos h]

/-- A loop that looks at each element, and leaves at the first that fails. -/
theorem loop_all {α R : Type} {xs : List α} {P : α → Bool} {r : R} {f : Int → Option (Int ⊕ (Unit ⊕ R))} (hs : ∀ i (h : i < xs.length), f (i : Int) = some (if P xs[i] then .inl ((i : Int) + 1) else .inr (.inr r))) (he : f (xs.length : Int) = some (.inr (.inl ()))) :
    loopM f 0 = some (if xs.all P then .inl () else .inr r) := by
  have key : ∀ m k : Nat, k + m = xs.length → loopM f (k : Int) = some (if (xs.drop k).all P then .inl () else .inr r) := by
    intro m
    induction m with
    | zero =>
      intro k hk
      have : k = xs.length := by omega
      subst this
      rw [loopM_eq, he]; simp [selim]
    | succ m ih =>
      intro k hk
      have hlt : k < xs.length := by omega
      rw [loopM_eq, hs k hlt, List.drop_eq_getElem_cons hlt]
      by_cases hp : P xs[k] = true
      · rw [if_pos hp]
        have := ih (k + 1) (by omega)
        simp only [Int.natCast_add, Int.cast_ofNat_Int] at this
        simp only [List.all_cons, hp, Bool.true_and, selim, this, Option.bind_some]
      · rw [if_neg hp]
        simp only [List.all_cons, Bool.not_eq_true] at hp ⊢
        simp only [hp, Bool.false_and, selim, Option.bind_some]; rfl
  have := key xs.length 0 (by omega)
  simpa using this
end Go.Vs

namespace Go.Vs

/-- A reader that has been asked at most k times. -/
def Good (k : Nat) (r : List UInt8 × Int) : Prop := r.1.length ≤ 2000 ∧ 0 ≤ r.2 ∧ r.2 ≤ k
theorem Good.mono {k m : Nat} {r : List UInt8 × Int} (h : Good k r) (hm : k ≤ m) : Good m r := ⟨h.1, h.2.1, by have := h.2.2; omega⟩

/-- A valid vector. -/
def isVec (v : List Int) : Bool := decide (v.length = 4) && v.all fun x => decide (-100 ≤ x) && decide (x ≤ 100)
theorem isVec_iff {v : List Int} : isVec v = true ↔ v.length = 4 ∧ ∀ x ∈ v, -100 ≤ x ∧ x ≤ 100 := by
  unfold isVec; simp
theorem isVec_four {v : List Int} (h : isVec v = true) : ∃ a b c d, v = [a, b, c, d] ∧ (-100 ≤ a ∧ a ≤ 100) ∧ (-100 ≤ b ∧ b ≤ 100) ∧ (-100 ≤ c ∧ c ≤ 100) ∧ (-100 ≤ d ∧ d ≤ 100) := by
  obtain ⟨h1, h2⟩ := isVec_iff.1 h
  match v, h1 with
  | [a, b, c, d], _ => exact ⟨a, b, c, d, rfl, h2 a (by simp), h2 b (by simp), h2 c (by simp), h2 d (by simp)⟩

end Go.Vs
namespace Go.Vs
/-- A vector that may be drawn. -/
def Near (v : List Int) : Prop := v.length ≤ 5 ∧ ∀ x ∈ v, -101 ≤ x ∧ x ≤ 101
theorem implCoords_ok (v : List Int) (hb : v.length < 2000000) : M.impl_validCoords v = some (v.all fun x => decide (-100 ≤ x) && decide (x ≤ 100)) := by
  unfold M.impl_validCoords
  rw [loop_all (xs := v) (P := fun x => decide (-100 ≤ x) && decide (x ≤ 100)) (r := false)]
  · by_cases ha : (v.all fun x => decide (-100 ≤ x) && decide (x ≤ 100)) = true
    · simp only [ha, if_true, Option.bind_some, selim]
    · simp only [Bool.not_eq_true] at ha
      simp only [ha]; simp [selim]
  · intro i h
    have e1 : decide ((i : Int) < (v.length : Int)) = true := by simpa using h
    have e2 : w64 ((i : Int) + 1) = (i : Int) + 1 := w64_id (by omega) (by omega)
    simp only [e1, cond_true, gidx_nat h, Option.bind_some, e2]
    by_cases c1 : v[i] < -100
    · have c2 : ¬ (-100 ≤ v[i]) := by omega
      simp [c1, c2]
    · by_cases c3 : 100 < v[i]
      · have c4 : ¬ (v[i] ≤ 100) := by omega
        simp [c1, c3, c4]
      · simp [c1, c3, show -100 ≤ v[i] by omega, show v[i] ≤ 100 by omega]
  · simp
theorem impl_valid (v : List Int) (hb : v.length < 2000000) : M.impl_ValidVector v = some (isVec v) := by
  unfold M.impl_ValidVector
  simp only [implCoords_ok v hb, Option.bind_some]
  unfold isVec
  by_cases hl : v.length = 4
  · have e : ((v.length : Int) == 4) = true := by simp; omega
    rw [e, cond_true, decide_eq_true hl, Bool.true_and]
  · have e : ((v.length : Int) == 4) = false := by simp; omega
    rw [e, cond_false, decide_eq_false hl, Bool.false_and]
theorem spec_inR (n l h : Int) : M.spec_inRange n l h = some (decide (l ≤ n) && decide (n ≤ h)) := by
  unfold M.spec_inRange
  by_cases h1 : l ≤ n <;> simp [h1]
theorem spec_all (v : List Int) (l h : Int) (hb : v.length < 2000000) : M.spec_allIn v l h = some (v.all fun x => decide (l ≤ x) && decide (x ≤ h)) := by
  unfold M.spec_allIn
  rw [loop_all (xs := v) (P := fun x => decide (l ≤ x) && decide (x ≤ h)) (r := false)]
  · by_cases ha : (v.all fun x => decide (l ≤ x) && decide (x ≤ h)) = true
    · simp only [ha, if_true, Option.bind_some, selim]
    · simp only [Bool.not_eq_true] at ha
      simp [ha, selim]
  · intro i hi
    have e1 : decide ((i : Int) < (v.length : Int)) = true := by simpa using hi
    have e2 : w64 ((i : Int) + 1) = (i : Int) + 1 := w64_id (by omega) (by omega)
    simp only [e1, cond_true, gidx_nat hi, Option.bind_some, e2, spec_inR]
    cases (decide (l ≤ v[i]) && decide (v[i] ≤ h)) <;> rfl
  · simp
theorem spec_isVec (v : List Int) (hb : v.length < 2000000) : M.spec_isVector v = some (isVec v) := by
  unfold M.spec_isVector
  by_cases hl : v.length = 4
  · have e : ((v.length : Int) == 4) = true := by simp; omega
    simp [e, spec_all v _ _ hb, isVec, hl]
  · have e : ((v.length : Int) == 4) = false := by simp; omega
    simp [e, isVec, hl]
end Go.Vs

namespace Go.Vs

end Go.Vs

namespace Go.Vs

theorem loop4 {S R : Type} {f : S → Option (S ⊕ R)} {s0 s1 s2 s3 s4 : S} {r : R} (h0 : f s0 = some (.inl s1)) (h1 : f s1 = some (.inl s2)) (h2 : f s2 = some (.inl s3)) (h3 : f s3 = some (.inl s4)) (h4 : f s4 = some (.inr r)) : loopM f s0 = some r := by
  rw [loopM_eq, h0, Option.bind_some, selim, loopM_eq, h1, Option.bind_some, selim, loopM_eq, h2, Option.bind_some, selim, loopM_eq, h3, Option.bind_some, selim, loopM_eq, h4]; rfl
theorem gi0 {α : Type} {a : α} {l : List α} : gidx (a :: l) 0 = some a := gidx_nat (i := 0) (by simp)
theorem gi1 {α : Type} {a b : α} {l : List α} : gidx (a :: b :: l) 1 = some b := gidx_nat (i := 1) (by simp)
theorem gi2 {α : Type} {a b c : α} {l : List α} : gidx (a :: b :: c :: l) 2 = some c := gidx_nat (i := 2) (by simp)
theorem gi3 {α : Type} {a b c d : α} {l : List α} : gidx (a :: b :: c :: d :: l) 3 = some d := gidx_nat (i := 3) (by simp)
theorem i01 : w64 ((0 : Int) + 1) = 1 := w64_id (by omega) (by omega)
theorem i12 : w64 ((1 : Int) + 1) = 2 := w64_id (by omega) (by omega)
theorem i23 : w64 ((2 : Int) + 1) = 3 := w64_id (by omega) (by omega)
theorem i34 : w64 ((3 : Int) + 1) = 4 := w64_id (by omega) (by omega)
theorem d04 : decide ((0 : Int) < 4) = true := rfl
theorem d14 : decide ((1 : Int) < 4) = true := rfl
theorem d24 : decide ((2 : Int) < 4) = true := rfl
theorem d34 : decide ((3 : Int) < 4) = true := rfl
theorem d44 : decide ((4 : Int) < 4) = false := rfl
theorem l4 {α : Type} {a b c d : α} : (([a, b, c, d] : List α).length : Int) = 4 := rfl

/-- How far two coordinates lie apart. -/
def gap (x y : Int) : Int := max (x - y) (y - x)
theorem gap_nonneg (x y : Int) : 0 ≤ gap x y := by unfold gap; omega
/-- A coordinate. -/
def Co (x : Int) : Prop := -100 ≤ x ∧ x ≤ 100
theorem gap_le {x y : Int} (hx : Co x) (hy : Co y) : gap x y ≤ 200 := by unfold gap; unfold Co at hx hy; omega
theorem sq_bounds {g : Int} (h0 : 0 ≤ g) (h : g ≤ 200) : 0 ≤ g * g ∧ g ≤ g * g ∧ g * g ≤ 40000 := by
  refine ⟨Int.mul_nonneg h0 h0, ?_, ?_⟩
  · by_cases h1 : g = 0
    · subst h1; simp
    · have := Int.mul_le_mul_of_nonneg_right (show (1 : Int) ≤ g by omega) h0; omega
  · have := Int.mul_le_mul h h h0 (by omega); omega
/-- The distance of a kind, from the gaps. -/
def dk (k g0 g1 g2 g3 : Int) : Int :=
  if k = 1 then g0 + g1 + g2 + g3 else if k = 2 then max (max (max (max 0 g0) g1) g2) g3 else if k = 3 then g0 * g0 + g1 * g1 + g2 * g2 + g3 * g3 else if k = 4 then min g0 1 + min g1 1 + min g2 1 + min g3 1 else -1

theorem distanceOf_ok (k : Int) {g0 g1 g2 g3 : Int} (h0 : 0 ≤ g0) (h0' : g0 ≤ 200) (h1 : 0 ≤ g1) (h1' : g1 ≤ 200) (h2 : 0 ≤ g2) (h2' : g2 ≤ 200) (h3 : 0 ≤ g3) (h3' : g3 ≤ 200) :
    M.impl_distanceOf k [g0, g1, g2, g3] = some (dk k g0 g1 g2 g3) := by
  unfold M.impl_distanceOf
  have s0 := sq_bounds h0 h0'
  have s1 := sq_bounds h1 h1'
  have s2 := sq_bounds h2 h2'
  have s3 := sq_bounds h3 h3'
  by_cases k1 : k = 1
  · subst k1
    have e0 : w64 (0 + g0) = g0 := by rw [w64_id (by omega) (by omega)]; omega
    have e1 : w64 (g0 + g1) = g0 + g1 := w64_id (by omega) (by omega)
    have e2 : w64 (g0 + g1 + g2) = g0 + g1 + g2 := w64_id (by omega) (by omega)
    have e3 : w64 (g0 + g1 + g2 + g3) = g0 + g1 + g2 + g3 := w64_id (by omega) (by omega)
    rw [loop4 (s1 := (g0, 1)) (s2 := (g0 + g1, 2)) (s3 := (g0 + g1 + g2, 3)) (s4 := (g0 + g1 + g2 + g3, 4)) (r := .inl (g0 + g1 + g2 + g3))]
    · rfl
    · simp only [d04, gi0, i01, e0, selim, cond_true, Option.bind_some]; rfl
    · simp only [d14, gi1, i12, e1, selim, cond_true, Option.bind_some]; rfl
    · simp only [d24, gi2, i23, e2, selim, cond_true, Option.bind_some]; rfl
    · simp only [d34, gi3, i34, e3, selim, cond_true, Option.bind_some]; rfl
    · simp [d44]
  by_cases k2 : k = 2
  · subst k2
    rw [loop4 (s1 := (max 0 g0, 1)) (s2 := (max (max 0 g0) g1, 2)) (s3 := (max (max (max 0 g0) g1) g2, 3)) (s4 := (max (max (max (max 0 g0) g1) g2) g3, 4)) (r := .inl (max (max (max (max 0 g0) g1) g2) g3))]
    · rfl
    · simp only [d04, gi0, i01, selim, cond_true, Option.bind_some]; rfl
    · simp only [d14, gi1, i12, selim, cond_true, Option.bind_some]; rfl
    · simp only [d24, gi2, i23, selim, cond_true, Option.bind_some]; rfl
    · simp only [d34, gi3, i34, selim, cond_true, Option.bind_some]; rfl
    · simp [d44]
  by_cases k3 : k = 3
  · subst k3
    have q0 : w64 (g0 * g0) = g0 * g0 := w64_id (by omega) (by omega)
    have q1 : w64 (g1 * g1) = g1 * g1 := w64_id (by omega) (by omega)
    have q2 : w64 (g2 * g2) = g2 * g2 := w64_id (by omega) (by omega)
    have q3 : w64 (g3 * g3) = g3 * g3 := w64_id (by omega) (by omega)
    have e0 : w64 (0 + g0 * g0) = g0 * g0 := by rw [w64_id (by omega) (by omega)]; omega
    have e1 : w64 (g0 * g0 + g1 * g1) = g0 * g0 + g1 * g1 := w64_id (by omega) (by omega)
    have e2 : w64 (g0 * g0 + g1 * g1 + g2 * g2) = g0 * g0 + g1 * g1 + g2 * g2 := w64_id (by omega) (by omega)
    have e3 : w64 (g0 * g0 + g1 * g1 + g2 * g2 + g3 * g3) = g0 * g0 + g1 * g1 + g2 * g2 + g3 * g3 := w64_id (by omega) (by omega)
    rw [loop4 (s1 := (g0 * g0, 1)) (s2 := (g0 * g0 + g1 * g1, 2)) (s3 := (g0 * g0 + g1 * g1 + g2 * g2, 3)) (s4 := (g0 * g0 + g1 * g1 + g2 * g2 + g3 * g3, 4)) (r := .inl (g0 * g0 + g1 * g1 + g2 * g2 + g3 * g3))]
    · rfl
    · simp only [d04, gi0, i01, e0, q0, selim, cond_true, Option.bind_some]; rfl
    · simp only [d14, gi1, i12, e1, q1, selim, cond_true, Option.bind_some]; rfl
    · simp only [d24, gi2, i23, e2, q2, selim, cond_true, Option.bind_some]; rfl
    · simp only [d34, gi3, i34, e3, q3, selim, cond_true, Option.bind_some]; rfl
    · simp [d44]
  by_cases k4 : k = 4
  · subst k4
    have e0 : w64 (0 + min g0 1) = min g0 1 := by rw [w64_id (by omega) (by omega)]; omega
    have e1 : w64 (min g0 1 + min g1 1) = min g0 1 + min g1 1 := w64_id (by omega) (by omega)
    have e2 : w64 (min g0 1 + min g1 1 + min g2 1) = min g0 1 + min g1 1 + min g2 1 := w64_id (by omega) (by omega)
    have e3 : w64 (min g0 1 + min g1 1 + min g2 1 + min g3 1) = min g0 1 + min g1 1 + min g2 1 + min g3 1 := w64_id (by omega) (by omega)
    rw [loop4 (s1 := (min g0 1, 1)) (s2 := (min g0 1 + min g1 1, 2)) (s3 := (min g0 1 + min g1 1 + min g2 1, 3)) (s4 := (min g0 1 + min g1 1 + min g2 1 + min g3 1, 4)) (r := .inl (min g0 1 + min g1 1 + min g2 1 + min g3 1))]
    · rfl
    · simp only [d04, gi0, i01, e0, selim, cond_true, Option.bind_some]; rfl
    · simp only [d14, gi1, i12, e1, selim, cond_true, Option.bind_some]; rfl
    · simp only [d24, gi2, i23, e2, selim, cond_true, Option.bind_some]; rfl
    · simp only [d34, gi3, i34, e3, selim, cond_true, Option.bind_some]; rfl
    · simp [d44]
  have b1 : (k == 1) = false := by simpa using k1
  have b2 : (k == 2) = false := by simpa using k2
  have b3 : (k == 3) = false := by simpa using k3
  have b4 : (k == 4) = false := by simpa using k4
  rw [loopM_eq]
  simp [d04, gi0, b1, b2, b3, b4, selim, dk, k1, k2, k3, k4]

theorem gapsOf_ok {a b c d x y z w : Int} (ha : Co a) (hb : Co b) (hc : Co c) (hd : Co d) (hx : Co x) (hy : Co y) (hz : Co z) (hw : Co w) :
    M.impl_gapsOf [a, b, c, d] [x, y, z, w] = some [gap a x, gap b y, gap c z, gap d w] := by
  have e : ∀ p q, Co p → Co q → max (w64 (p - q)) (w64 (q - p)) = gap p q := by
    intro p q hp hq
    unfold Co at hp hq
    rw [w64_id (n := p - q) (by omega) (by omega), w64_id (n := q - p) (by omega) (by omega)]; rfl
  unfold M.impl_gapsOf
  rw [loop4 (s1 := ([gap a x, 0, 0, 0], 1)) (s2 := ([gap a x, gap b y, 0, 0], 2)) (s3 := ([gap a x, gap b y, gap c z, 0], 3)) (s4 := ([gap a x, gap b y, gap c z, gap d w], 4)) (r := [gap a x, gap b y, gap c z, gap d w])]
  · rfl
  · simp only [show List.replicate 4 (0 : Int) = [0, 0, 0, 0] from rfl, d04, gi0, i01, cond_true, Option.bind_some, e a x ha hx]; rfl
  · simp only [d14, gi1, i12, cond_true, Option.bind_some, e b y hb hy]; rfl
  · simp only [d24, gi2, i23, cond_true, Option.bind_some, e c z hc hz]; rfl
  · simp only [d34, gi3, i34, cond_true, Option.bind_some, e d w hd hw]; rfl
  · simp only [d44, cond_false]

theorem specDist_ok {k : Int} (hk : 1 ≤ k ∧ k ≤ 4) {a b c d x y z w : Int} (ha : Co a) (hb : Co b) (hc : Co c) (hd : Co d) (hx : Co x) (hy : Co y) (hz : Co z) (hw : Co w) :
    M.spec_dist k [a, b, c, d] [x, y, z, w] = some (dk k (gap a x) (gap b y) (gap c z) (gap d w)) := by
  have e : ∀ p q, Co p → Co q → M.spec_size (w64 (p - q)) = some (gap p q) := by
    intro p q hp hq
    unfold Co at hp hq
    unfold M.spec_size
    rw [w64_id (n := p - q) (by omega) (by omega), w64_id (n := 0 - (p - q)) (by omega) (by omega)]
    unfold gap
    congr 1; omega
  have t : ∀ g : Int, 0 ≤ g → M.spec_toInt (decide (0 < g)) = some (min g 1) := by
    intro g hg
    unfold M.spec_toInt
    by_cases h : 0 < g
    · simp [h]; omega
    · simp [h]; omega
  have ea := e a x ha hx
  have eb := e b y hb hy
  have ec := e c z hc hz
  have ed := e d w hd hw
  have h0 := gap_nonneg a x
  have h1 := gap_nonneg b y
  have h2 := gap_nonneg c z
  have h3 := gap_nonneg d w
  have h0' := gap_le ha hx
  have h1' := gap_le hb hy
  have h2' := gap_le hc hz
  have h3' := gap_le hd hw
  generalize gap a x = g0 at *
  generalize gap b y = g1 at *
  generalize gap c z = g2 at *
  generalize gap d w = g3 at *
  have s0 := sq_bounds h0 h0'
  have s1 := sq_bounds h1 h1'
  have s2 := sq_bounds h2 h2'
  have s3 := sq_bounds h3 h3'
  unfold M.spec_dist
  by_cases k1 : k = 1
  · subst k1
    have e0 : w64 (0 + g0) = g0 := by rw [w64_id (by omega) (by omega)]; omega
    have e1 : w64 (g0 + g1) = g0 + g1 := w64_id (by omega) (by omega)
    have e2 : w64 (g0 + g1 + g2) = g0 + g1 + g2 := w64_id (by omega) (by omega)
    have e3 : w64 (g0 + g1 + g2 + g3) = g0 + g1 + g2 + g3 := w64_id (by omega) (by omega)
    rw [loop4 (s1 := (g0, 1)) (s2 := (g0 + g1, 2)) (s3 := (g0 + g1 + g2, 3)) (s4 := (g0 + g1 + g2 + g3, 4)) (r := g0 + g1 + g2 + g3)]
    · rfl
    · simp only [l4, d04, gi0, i01, e0, ea, cond_true, Option.bind_some]; rfl
    · simp only [l4, d14, gi1, i12, e1, eb, cond_true, Option.bind_some]; rfl
    · simp only [l4, d24, gi2, i23, e2, ec, cond_true, Option.bind_some]; rfl
    · simp only [l4, d34, gi3, i34, e3, ed, cond_true, Option.bind_some]; rfl
    · simp [l4, d44]
  by_cases k2 : k = 2
  · subst k2
    rw [loop4 (s1 := (max 0 g0, 1)) (s2 := (max (max 0 g0) g1, 2)) (s3 := (max (max (max 0 g0) g1) g2, 3)) (s4 := (max (max (max (max 0 g0) g1) g2) g3, 4)) (r := max (max (max (max 0 g0) g1) g2) g3)]
    · rfl
    · simp only [l4, d04, gi0, i01, ea, cond_true, Option.bind_some]; rfl
    · simp only [l4, d14, gi1, i12, eb, cond_true, Option.bind_some]; rfl
    · simp only [l4, d24, gi2, i23, ec, cond_true, Option.bind_some]; rfl
    · simp only [l4, d34, gi3, i34, ed, cond_true, Option.bind_some]; rfl
    · simp [l4, d44]
  by_cases k3 : k = 3
  · subst k3
    have q0 : w64 (g0 * g0) = g0 * g0 := w64_id (by omega) (by omega)
    have q1 : w64 (g1 * g1) = g1 * g1 := w64_id (by omega) (by omega)
    have q2 : w64 (g2 * g2) = g2 * g2 := w64_id (by omega) (by omega)
    have q3 : w64 (g3 * g3) = g3 * g3 := w64_id (by omega) (by omega)
    have e0 : w64 (0 + g0 * g0) = g0 * g0 := by rw [w64_id (by omega) (by omega)]; omega
    have e1 : w64 (g0 * g0 + g1 * g1) = g0 * g0 + g1 * g1 := w64_id (by omega) (by omega)
    have e2 : w64 (g0 * g0 + g1 * g1 + g2 * g2) = g0 * g0 + g1 * g1 + g2 * g2 := w64_id (by omega) (by omega)
    have e3 : w64 (g0 * g0 + g1 * g1 + g2 * g2 + g3 * g3) = g0 * g0 + g1 * g1 + g2 * g2 + g3 * g3 := w64_id (by omega) (by omega)
    rw [loop4 (s1 := (g0 * g0, 1)) (s2 := (g0 * g0 + g1 * g1, 2)) (s3 := (g0 * g0 + g1 * g1 + g2 * g2, 3)) (s4 := (g0 * g0 + g1 * g1 + g2 * g2 + g3 * g3, 4)) (r := g0 * g0 + g1 * g1 + g2 * g2 + g3 * g3)]
    · rfl
    · simp only [l4, d04, gi0, i01, e0, q0, ea, cond_true, Option.bind_some]; rfl
    · simp only [l4, d14, gi1, i12, e1, q1, eb, cond_true, Option.bind_some]; rfl
    · simp only [l4, d24, gi2, i23, e2, q2, ec, cond_true, Option.bind_some]; rfl
    · simp only [l4, d34, gi3, i34, e3, q3, ed, cond_true, Option.bind_some]; rfl
    · simp [l4, d44]
  · have k4 : k = 4 := by omega
    subst k4
    have e0 : w64 (0 + min g0 1) = min g0 1 := by rw [w64_id (by omega) (by omega)]; omega
    have e1 : w64 (min g0 1 + min g1 1) = min g0 1 + min g1 1 := w64_id (by omega) (by omega)
    have e2 : w64 (min g0 1 + min g1 1 + min g2 1) = min g0 1 + min g1 1 + min g2 1 := w64_id (by omega) (by omega)
    have e3 : w64 (min g0 1 + min g1 1 + min g2 1 + min g3 1) = min g0 1 + min g1 1 + min g2 1 + min g3 1 := w64_id (by omega) (by omega)
    rw [loop4 (s1 := (min g0 1, 1)) (s2 := (min g0 1 + min g1 1, 2)) (s3 := (min g0 1 + min g1 1 + min g2 1, 3)) (s4 := (min g0 1 + min g1 1 + min g2 1 + min g3 1, 4)) (r := min g0 1 + min g1 1 + min g2 1 + min g3 1)]
    · rfl
    · simp only [l4, d04, gi0, i01, e0, ea, t g0 h0, cond_true, Option.bind_some]; simp only [show ((4 : Int) == 1) = false from rfl, show ((4 : Int) == 2) = false from rfl, show ((4 : Int) == 3) = false from rfl, cond_false, Option.bind_some, t g0 h0, e0]
    · simp only [l4, d14, gi1, i12, e1, eb, t g1 h1, cond_true, Option.bind_some]; simp only [show ((4 : Int) == 1) = false from rfl, show ((4 : Int) == 2) = false from rfl, show ((4 : Int) == 3) = false from rfl, cond_false, Option.bind_some, t g1 h1, e1]
    · simp only [l4, d24, gi2, i23, e2, ec, t g2 h2, cond_true, Option.bind_some]; simp only [show ((4 : Int) == 1) = false from rfl, show ((4 : Int) == 2) = false from rfl, show ((4 : Int) == 3) = false from rfl, cond_false, Option.bind_some, t g2 h2, e2]
    · simp only [l4, d34, gi3, i34, e3, ed, t g3 h3, cond_true, Option.bind_some]; simp only [show ((4 : Int) == 1) = false from rfl, show ((4 : Int) == 2) = false from rfl, show ((4 : Int) == 3) = false from rfl, cond_false, Option.bind_some, t g3 h3, e3]
    · simp [l4, d44]
end Go.Vs

namespace Go.Vs

/-- What Distance answers. -/
def dist (k : Int) (a b : List Int) : Int :=
  if isVec a = true ∧ isVec b = true then dk k (gap (a.getD 0 0) (b.getD 0 0)) (gap (a.getD 1 0) (b.getD 1 0)) (gap (a.getD 2 0) (b.getD 2 0)) (gap (a.getD 3 0) (b.getD 3 0)) else -1
theorem dist_vec {k : Int} {a b c d x y z w : Int} (ha : isVec [a, b, c, d] = true) (hb : isVec [x, y, z, w] = true) : dist k [a, b, c, d] [x, y, z, w] = dk k (gap a x) (gap b y) (gap c z) (gap d w) := by
  unfold dist; rw [if_pos ⟨ha, hb⟩]; rfl
theorem isVec_cut {v : List Int} (h : isVec v = true) : ∃ a b c d, v = [a, b, c, d] ∧ Co a ∧ Co b ∧ Co c ∧ Co d := isVec_four h

theorem implDistance_ok (k : Int) {a b : List Int} (ha : a.length < 2000000) (hb : b.length < 2000000) : M.impl_Distance k a b = some (dist k a b) := by
  unfold M.impl_Distance
  simp only [impl_valid a ha, Option.bind_some]
  by_cases va : isVec a = true
  · simp only [va, Bool.not_true, cond_false, impl_valid b hb, Option.bind_some]
    by_cases vb : isVec b = true
    · simp only [vb, Bool.not_true, cond_false]
      obtain ⟨x0, x1, x2, x3, rfl, c0, c1, c2, c3⟩ := isVec_cut va
      obtain ⟨y0, y1, y2, y3, rfl, e0, e1, e2, e3⟩ := isVec_cut vb
      rw [dist_vec va vb, garr_ok (by simp), garr_ok (by simp)]
      simp only [Option.bind_some, List.take_succ_cons, List.take_zero, gapsOf_ok c0 c1 c2 c3 e0 e1 e2 e3]
      rw [distanceOf_ok k (gap_nonneg _ _) (gap_le c0 e0) (gap_nonneg _ _) (gap_le c1 e1) (gap_nonneg _ _) (gap_le c2 e2) (gap_nonneg _ _) (gap_le c3 e3)]
      rfl
    · have vb' : isVec b = false := by simpa using vb
      simp [vb', dist]
  · have va' : isVec a = false := by simpa using va
    simp [va', dist]
theorem equalInts_ok {a b : List Int} (ha : a.length < 2000000) : M.laws_equalInts a b = some (decide (a = b)) := by
  unfold M.laws_equalInts
  by_cases hl : a.length = b.length
  · have e : ((a.length : Int) != (b.length : Int)) = false := by simp; omega
    simp only [e, cond_false]
    rw [loop_all (xs := a.zip b) (P := fun p => p.1 == p.2) (r := false)]
    · by_cases h : a = b
      · subst h
        have : (a.zip a).all (fun p => p.1 == p.2) = true := by
          rw [List.all_eq_true]; intro p hp
          obtain ⟨i, hi, rfl⟩ := List.mem_iff_getElem.1 hp
          simp
        rw [if_pos this]; simp [selim]
      · have : ¬ (a.zip b).all (fun p => p.1 == p.2) = true := by
          intro hh; apply h
          apply List.ext_getElem hl
          intro i h1 h2
          rw [List.all_eq_true] at hh
          have := hh (a[i], b[i]) (List.mem_iff_getElem.2 ⟨i, by simp; omega, by simp⟩)
          simpa using this
        rw [if_neg this]; simp [selim, h]
    · intro i hi
      have hi1 : i < a.length := by simp at hi; omega
      have hi2 : i < b.length := by simp at hi; omega
      have e1 : decide ((i : Int) < (a.length : Int)) = true := by simpa using hi1
      have e2 : w64 ((i : Int) + 1) = (i : Int) + 1 := w64_id (by omega) (by omega)
      simp only [e1, cond_true, gidx_nat hi1, gidx_nat hi2, Option.bind_some, e2, List.getElem_zip]
      by_cases hc : a[i] = b[i]
      · simp [hc]
      · have hb : (a[i] == b[i]) = false := by simpa using hc
        have hb' : (a[i] != b[i]) = true := by simpa using hc
        simp [hb, hb']
    · have : (a.zip b).length = a.length := by simp; omega
      rw [this]; simp
  · have e : ((a.length : Int) != (b.length : Int)) = true := by simp; omega
    have : a ≠ b := fun h => hl (by rw [h])
    simp [e, this]

/-- Gaps of two vectors. -/
structure Gaps (g0 g1 g2 g3 : Int) : Prop where
  n0 : 0 ≤ g0
  n1 : 0 ≤ g1
  n2 : 0 ≤ g2
  n3 : 0 ≤ g3
  m0 : g0 ≤ 200
  m1 : g1 ≤ 200
  m2 : g2 ≤ 200
  m3 : g3 ≤ 200
end Go.Vs

namespace Go.Vs

end Go.Vs

namespace Go.Vs

end Go.Vs

namespace Go.Vs

theorem map_loop {α β : Type} {a : List α} {z : β} {g : α → β} (ha : a.length ≤ 1048576) {f : List β × Int → Option ((List β × Int) ⊕ List β)}
    (hs : ∀ (s : List β) (i : Nat) (h : i < a.length) (h' : i < s.length), f (s, (i : Int)) = some (.inl (s.set i (g a[i]), ((i + 1 : Nat) : Int)))) (he : ∀ s, f (s, (a.length : Int)) = some (.inr s)) :
    loopM f (List.replicate a.length z, 0) = some (a.map g) := by
  have hloop := loop_run (R := List β) (f := f) (r := a.map g) a.length (fun i => ((a.take i).map g ++ List.replicate (a.length - i) z, (i : Int))) (by
    intro i hi
    have hl : i < ((a.take i).map g ++ List.replicate (a.length - i) z).length := by simp; omega
    rw [hs _ i hi hl]
    have hr : List.replicate (a.length - i) z = z :: List.replicate (a.length - (i + 1)) z := by
      rw [show a.length - i = (a.length - (i + 1)) + 1 by omega, List.replicate_succ]
    rw [List.take_succ_eq_append_getElem hi, hr, List.set_append_right _ _ (by simp; omega)]
    have : i - ((a.take i).map g).length = 0 := by simp; omega
    rw [this]; simp only [List.set_cons_zero, List.append_assoc, List.cons_append, List.nil_append, List.map_append, List.map_cons, List.map_nil]) (by
    rw [he]; simp)
  simpa using hloop
end Go.Vs

namespace Go.Vs

end Go.Vs

namespace Go.Vs

theorem toIntS_ok {a : List Int} (h : a.length ≤ 1048576) : M.laws_toIntS a = some a := by
  unfold M.laws_toIntS
  rw [gmake_ok (by omega) (by omega)]
  simp only [Option.bind_some, Int.toNat_natCast]
  have hloop := loop_run (R := List Int) (f := fun (s10 : (List Int) × (Int)) => (bif decide (s10.2 < (a.length : Int)) then
  (gidx a s10.2).bind fun x18 =>
  (gidx s10.1 s10.2).bind fun x23 =>
  some (.inl ((s10.1.set s10.2.toNat x18), w64 (s10.2 + 1)))
 else
  some (.inr s10.1))) (r := a) a.length (fun i => (a.take i ++ List.replicate (a.length - i) 0, (i : Int))) (by
    intro i hi
    have e1 : decide ((i : Int) < (a.length : Int)) = true := by simpa using hi
    have e2 : w64 ((i : Int) + 1) = ((i + 1 : Nat) : Int) := w64_id (by omega) (by omega)
    have hl : i < (a.take i ++ List.replicate (a.length - i) (0 : Int)).length := by simp; omega
    simp only [e1, cond_true, gidx_nat hi, gidx_nat hl, Option.bind_some, e2, Int.toNat_natCast, Option.some.injEq, Sum.inl.injEq, Prod.mk.injEq, and_true]
    rw [List.take_succ_eq_append_getElem hi]
    have hr : List.replicate (a.length - i) (0 : Int) = 0 :: List.replicate (a.length - (i + 1)) 0 := by
      rw [show a.length - i = (a.length - (i + 1)) + 1 by omega, List.replicate_succ]
    rw [hr, List.set_append_right _ _ (by simp; omega)]
    have : i - (a.take i).length = 0 := by simp; omega
    rw [this]; simp only [List.set_cons_zero, List.append_assoc, List.cons_append, List.nil_append]) (by
    have e1 : decide (((a.length : Nat) : Int) < (a.length : Int)) = false := by simp
    simp only [e1, cond_false, List.take_length, Nat.sub_self, List.replicate_zero, List.append_nil])
  simp only [List.take_zero, List.nil_append, Nat.sub_zero, Int.cast_ofNat_Int] at hloop
  rw [hloop]; rfl
theorem eqIntS_ok {a b : List Int} (ha : a.length < 2000000) : M.laws_eqIntS a b = some (decide (a = b)) := equalInts_ok ha

end Go.Vs

namespace Go.Vs

end Go.Vs

namespace Go.Vs

abbrev Item := Int × (List Int) × Int
end Go.Vs

namespace Go.Vs

theorem szIntS_ok {a : List Int} {left : Int} (ha : a.length ≤ 9223372036854775807) (h0 : 0 ≤ left) (h1 : left ≤ 1048576) :
    ∃ s, M.laws_szIntS a left = some s ∧ (s < 0 ∨ (0 ≤ s ∧ s ≤ left ∧ a.length ≤ 1048576)) := by
  unfold M.laws_szIntS
  rw [w64_id (by omega) (by omega)]
  by_cases h : left - (a.length : Int) < 0
  · exact ⟨-1, by simp [h], .inl (by omega)⟩
  · exact ⟨left - a.length, by simp [h], .inr (by omega)⟩
end Go.Vs

namespace Go.Vs

theorem w64_succ {i : Nat} (h : i < 4000000000000000000) : w64 ((i : Int) + 1) = ((i + 1 : Nat) : Int) := w64_id (by omega) (by omega)

section
variable {α S T R U : Type} {xs : List α}
theorem loop_fold (st : S → Int → T) (g : S → α → S) (Inv : Nat → S → Prop) {fin : S → R} {f : T → Option (T ⊕ R)} {s0 : S} (h0 : Inv 0 s0)
    (hs : ∀ s i (h : i < xs.length), Inv i s → f (st s (i : Int)) = some (.inl (st (g s xs[i]) ((i + 1 : Nat) : Int))) ∧ Inv (i + 1) (g s xs[i]))
    (he : ∀ s, Inv xs.length s → f (st s (xs.length : Int)) = some (.inr (fin s))) :
    loopM f (st s0 0) = some (fin (xs.foldl g s0)) ∧ Inv xs.length (xs.foldl g s0) := by
  have key : ∀ m k : Nat, ∀ s, k + m = xs.length → Inv k s → loopM f (st s (k : Int)) = some (fin ((xs.drop k).foldl g s)) ∧ Inv xs.length ((xs.drop k).foldl g s) := by
    intro m
    induction m with
    | zero =>
      intro k s hk hi
      have : k = xs.length := by omega
      subst this
      rw [loopM_eq, he s hi]; simpa [selim] using hi
    | succ m ih =>
      intro k s hk hi
      have hlt : k < xs.length := by omega
      obtain ⟨h1, h2⟩ := hs s k hlt hi
      rw [loopM_eq, h1, List.drop_eq_getElem_cons hlt]
      exact ih (k + 1) _ (by omega) h2
  have := key xs.length 0 s0 (by omega) h0
  simpa using this
/-- A loop in front of something. -/
theorem fold_bind (st : S → Int → T) (g : S → α → S) (Inv : Nat → S → Prop) (fin : S → R) {f : T → Option (T ⊕ R)} {s0 : S} {k : R → Option U} {r : Option U} (h0 : Inv 0 s0)
    (hs : ∀ s i (h : i < xs.length), Inv i s → f (st s (i : Int)) = some (.inl (st (g s xs[i]) ((i + 1 : Nat) : Int))) ∧ Inv (i + 1) (g s xs[i]))
    (he : ∀ s, Inv xs.length s → f (st s (xs.length : Int)) = some (.inr (fin s)))
    (hk : Inv xs.length (xs.foldl g s0) → k (fin (xs.foldl g s0)) = r) : (loopM f (st s0 0)).bind k = r := by
  obtain ⟨h1, h2⟩ := loop_fold st g Inv (fin := fin) h0 hs he
  rw [h1]; exact hk h2
end

theorem foldl_map {α β : Type} (g : α → β) (l : List α) : ∀ s : List β, l.foldl (fun s x => s ++ [g x]) s = s ++ l.map g := by
  induction l with
  | nil => intro s; simp
  | cons x l ih => intro s; rw [List.foldl_cons, ih]; simp

/-! ## Valid stores as lists that ascend -/
/-- A list of items that is small enough to be looked at. -/
def SmallS (l : List Item) : Prop := l.length ≤ 1048576 ∧ ∀ x ∈ l, x.2.1.length ≤ 1048576
theorem SmallS.hb {l : List Item} (h : SmallS l) : ∀ x ∈ l, x.2.1.length < 2000000 := fun x hx => by have := h.2 x hx; omega
theorem SmallS.hL {l : List Item} (h : SmallS l) : l.length < 2000000 := by have := h.1; omega
/-! ## Putting -/
/-! ## Draws -/
/-- An item that may be drawn. -/
def NearI (x : Item) : Prop := (0 ≤ x.1 ∧ x.1 ≤ 100) ∧ Near x.2.1 ∧ -1 ≤ x.2.2 ∧ x.2.2 ≤ 16
end Go.Vs

namespace Go.Vs

def cmpI (x y : Int) : Int := if x < y then -1 else if y < x then 1 else 0
theorem compare_ok (x y : Int) : M.cmp_Compare_int x y = some (cmpI x y) := by
  unfold M.cmp_Compare_int M.cmp_isNaN_int cmpI
  simp only [bne_self_eq_false, Option.bind_some, cond_false]
  by_cases h1 : x < y
  · simp [h1]
  · by_cases h2 : y < x <;> simp [h1, h2]
theorem cmpI_neg {x y : Int} : cmpI x y < 0 ↔ x < y := by unfold cmpI; split <;> (try split) <;> omega
end Go.Vs

namespace Go.Vs

section
variable {α S T R U : Type} {xs : List α}
end

end Go.Vs

namespace Go.Vs

/-! ## InBox -/
end Go.Vs

namespace Go.Vs

/-- A kind of distances that exists. -/
def isKind (k : Int) : Bool := decide (1 ≤ k) && decide (k ≤ 4)
theorem isKind_iff {k : Int} : isKind k = true ↔ 1 ≤ k ∧ k ≤ 4 := by unfold isKind; simp
theorem specDist_vec {k : Int} {a b : List Int} (hk : isKind k = true) (ha : isVec a = true) (hb : isVec b = true) : M.spec_dist k a b = some (dist k a b) := by
  obtain ⟨x0, x1, x2, x3, rfl, c0, c1, c2, c3⟩ := isVec_cut ha
  obtain ⟨y0, y1, y2, y3, rfl, e0, e1, e2, e3⟩ := isVec_cut hb
  rw [dist_vec ha hb]
  exact specDist_ok (isKind_iff.1 hk) c0 c1 c2 c3 e0 e1 e2 e3
theorem implDist_vec {k : Int} {a b : List Int} (ha : isVec a = true) (hb : isVec b = true) : M.impl_Distance k a b = some (dist k a b) :=
  implDistance_ok k (by rw [(isVec_iff.1 ha).1]; omega) (by rw [(isVec_iff.1 hb).1]; omega)

end Go.Vs

namespace Go.Vs

/-! ## What is drawn -/
theorem NearI.le {x : Item} (h : NearI x) : x.2.1.length ≤ 1048576 := by have := h.2.1.1; omega
section
variable {code : List UInt8}
end
end Go.Vs

namespace Go.Vs

end Go.Vs

namespace Go.Vs

/-- k, k + 1, .. -/
def upFrom (k : Int) (n : Nat) : List Int := (List.range n).map fun i : Nat => k + (i : Int)
theorem upFrom_len {k : Int} {n : Nat} : (upFrom k n).length = n := by simp [upFrom]
theorem upFrom_get {k : Int} {n i : Nat} (h : i < (upFrom k n).length) : (upFrom k n)[i] = k + (i : Int) := by simp [upFrom]
theorem markIntS_ok {a : List Int} {k : Int} (ha : a.length < 2000000) (h0 : 0 ≤ k) (h1 : k ≤ 2000000000000000) : M.laws_markIntS a k = some (k + (a.length : Int), upFrom k a.length) := by
  unfold M.laws_markIntS
  have hloop := loop_run (R := List Int × Int) (f := fun (s2 : (List Int) × (Int) × (Int)) => (bif decide (s2.2.2 < (s2.1.length : Int)) then
  (gidx s2.1 s2.2.2).bind fun x6 =>
  some (.inl ((s2.1.set s2.2.2.toNat s2.2.1), w64 (s2.2.1 + 1), w64 (s2.2.2 + 1)))
 else
  some (.inr (s2.1, s2.2.1)))) (r := (upFrom k a.length, k + (a.length : Int))) a.length (fun i => (upFrom k i ++ a.drop i, k + (i : Int), (i : Int))) (by
    intro i hi
    have hl : (upFrom k i ++ a.drop i).length = a.length := by rw [List.length_append, upFrom_len, List.length_drop]; omega
    have e1 : decide ((i : Int) < ((upFrom k i ++ a.drop i).length : Int)) = true := decide_eq_true (by omega)
    have e2 : w64 ((i : Int) + 1) = ((i + 1 : Nat) : Int) := w64_id (by omega) (by omega)
    have e3 : w64 (k + (i : Int) + 1) = k + ((i + 1 : Nat) : Int) := by rw [w64_id (by omega) (by omega)]; omega
    have hl' : i < (upFrom k i ++ a.drop i).length := by omega
    simp only [e1, cond_true, gidx_nat hl', Option.bind_some, e2, e3, Int.toNat_natCast, Option.some.injEq, Sum.inl.injEq, Prod.mk.injEq, and_true]
    rw [List.set_append_right _ _ (by rw [upFrom_len]; omega), upFrom_len, Nat.sub_self, List.drop_eq_getElem_cons hi, List.set_cons_zero]
    simp [upFrom, List.range_succ]) (by
    have e1 : decide (((a.length : Nat) : Int) < ((upFrom k a.length ++ a.drop a.length).length : Int)) = false := decide_eq_false (by rw [List.length_append, upFrom_len]; simp)
    simp only [List.drop_length, List.append_nil] at e1 ⊢
    simp only [e1, cond_false])
  simp only [upFrom, List.range_zero, List.map_nil, List.nil_append, List.drop_zero, Int.cast_ofNat_Int, Int.add_zero] at hloop
  rw [hloop]; rfl
theorem heldIntS_ok {n : Nat} {k : Int} (ha : n < 2000000) (h0 : 0 ≤ k) (h1 : k ≤ 2000000000000000) : M.laws_heldIntS (upFrom k n) k = some (k + (n : Int)) := by
  unfold M.laws_heldIntS
  have hloop := loop_run (R := Int ⊕ Int) (f := fun (s2 : (Int) × (Int)) => (bif decide (s2.2 < ((upFrom k n).length : Int)) then
  (gidx (upFrom k n) s2.2).bind fun x7 =>
  (bif x7 != s2.1 then
  some (.inr (.inr (-1)))
 else
  some (.inl (w64 (s2.1 + 1), w64 (s2.2 + 1))))
 else
  some (.inr (.inl s2.1)))) (r := .inl (k + (n : Int))) n (fun i => (k + (i : Int), (i : Int))) (by
    intro i hi
    have hl : i < (upFrom k n).length := by rw [upFrom_len]; exact hi
    have e1 : decide ((i : Int) < ((upFrom k n).length : Int)) = true := decide_eq_true (by omega)
    have e2 : w64 ((i : Int) + 1) = ((i + 1 : Nat) : Int) := w64_id (by omega) (by omega)
    have e3 : w64 (k + (i : Int) + 1) = k + ((i + 1 : Nat) : Int) := by rw [w64_id (by omega) (by omega)]; omega
    simp only [e1, cond_true, gidx_nat hl, upFrom_get, Option.bind_some, e2, e3, bne_self_eq_false, cond_false]) (by
    have e1 : decide ((n : Int) < ((upFrom k n).length : Int)) = false := decide_eq_false (by rw [upFrom_len]; omega)
    simp only [e1, cond_false])
  simp only [Int.cast_ofNat_Int, Int.add_zero] at hloop
  rw [hloop]; rfl
end Go.Vs

namespace Go.Vs

theorem dIntSS_ok {a : List (List Int)} (h : a.length ≤ 1048576) (hx : ∀ x ∈ a, x.length ≤ 1048576) : M.dIntSS a = some a := by
  unfold M.dIntSS
  rw [if_pos ⟨by omega, fun x hx' => toIntS_ok (hx x hx')⟩]
theorem dmarkIntSS_ok : ∀ (a : List (List Int)) (k : Int), (∀ x ∈ a, x.length ≤ 1048576) → 0 ≤ k → k + a.length * 1048578 ≤ 1999999999999990 → ∃ r, M.dmarkIntSS a k = some r ∧ k ≤ r ∧ r ≤ k + a.length * 1048578
  | [], k, _, _, _ => ⟨k, rfl, Int.le_refl _, by simp⟩
  | x :: a, k, hx, h0, h1 => by
    have hl := hx x (by simp)
    have h2 : ((x :: a).length : Int) = a.length + 1 := by simp
    rw [h2] at h1
    have hm := markIntS_ok (a := x) (k := k) (by omega) (by omega) (by omega)
    obtain ⟨r, hr, g1, g2⟩ := dmarkIntSS_ok a (k + (x.length : Int)) (fun y hy => hx y (by simp [hy])) (by omega) (by omega)
    refine ⟨r, ?_, by omega, by rw [h2]; omega⟩
    simp only [M.dmarkIntSS, hm, Option.bind_some, hr]
theorem markIntSD_ok {a : List (List Int)} (h : a.length ≤ 1048576) (hx : ∀ x ∈ a, x.length ≤ 1048576) : ∃ r, M.markIntSD a 1 = some r ∧ 1 ≤ r ∧ r ≤ 1100000000000 := by
  obtain ⟨r, hr, h1, h2⟩ := dmarkIntSS_ok a 1 hx (by omega) (by omega)
  refine ⟨r, ?_, h1, by omega⟩
  unfold M.markIntSD
  rw [if_pos (by omega), hr]
theorem one0 : (0 : Int) ≤ 1 := by omega
theorem one1 : (1 : Int) ≤ 2000000000000000 := by omega

theorem eqIntSS_self {a : List (List Int)} (h : a.length < 2000000) (hx : ∀ x ∈ a, x.length < 2000000) : M.laws_eqIntSS a a = some true := by
  unfold M.laws_eqIntSS
  simp only [bne_self_eq_false, cond_false]
  rw [loop_all (xs := a) (P := fun _ => true) (r := false)]
  · simp [selim]
  · intro i hi
    have e1 : decide ((i : Int) < (a.length : Int)) = true := by simpa using hi
    have e2 : w64 ((i : Int) + 1) = (i : Int) + 1 := w64_id (by omega) (by omega)
    simp only [e1, cond_true, gidx_nat hi, Option.bind_some, eqIntS_ok (hx _ (List.getElem_mem hi)), decide_true, Bool.not_true, cond_false, e2, if_true]
  · simp
end Go.Vs

namespace Go.Vs

noncomputable def G.ins {α : Type} (cmp : α → α → Option Int) (data_0 : List α) (a_1 : Int) (b_2 : Int) : Option ((List α)) :=
  Option.bind (loopM (fun (s2 : (List α) × (Int)) => (bif decide (s2.2 < b_2) then
  Option.bind (loopM (fun (s7 : (List α) × (Int)) => Option.bind ((bif decide (a_1 < s7.2) then
  (gidx s7.1 s7.2).bind fun x12 =>
  (gidx s7.1 (w64 (s7.2 - 1))).bind fun x19 =>
  (cmp x12 x19).bind fun r27 =>
  some (decide (r27 < 0))
 else
  some false)) fun o10 =>
  (bif o10 then
  (gidx s7.1 (w64 (s7.2 - 1))).bind fun x34 =>
  (gidx s7.1 s7.2).bind fun x41 =>
  (gidx s7.1 s7.2).bind fun x48 =>
  (gidx (s7.1.set s7.2.toNat x34) (w64 (s7.2 - 1))).bind fun x54 =>
  some (.inl (((s7.1.set s7.2.toNat x34).set (w64 (s7.2 - 1)).toNat x41), w64 (s7.2 - 1)))
 else
  some (.inr s7.1))) s2) fun o6 =>
  some (.inl (o6, w64 (s2.2 + 1)))
 else
  some (.inr s2.1))) (data_0, w64 (a_1 + 1))) fun o1 =>
  some o1

noncomputable def G.sift {α : Type} (cmp : α → α → Option Int) (data_0 : List α) (lo_1 : Int) (hi_2 : Int) (first_3 : Int) : Option ((List α)) :=
  Option.bind (loopM (fun (s2 : (List α) × (Int)) => (bif decide (hi_2 ≤ (w64 ((w64 (2 * s2.2)) + 1))) then
  some (.inr (.inl s2.1))
 else
  Option.bind ((bif decide ((w64 ((w64 ((w64 (2 * s2.2)) + 1)) + 1)) < hi_2) then
  (gidx s2.1 (w64 (first_3 + (w64 ((w64 (2 * s2.2)) + 1))))).bind fun x8 =>
  (gidx s2.1 (w64 ((w64 (first_3 + (w64 ((w64 (2 * s2.2)) + 1)))) + 1))).bind fun x15 =>
  (cmp x8 x15).bind fun r23 =>
  some (decide (r23 < 0))
 else
  some false)) fun o6 =>
  Option.bind ((bif o6 then
  some (w64 ((w64 ((w64 (2 * s2.2)) + 1)) + 1))
 else
  some (w64 ((w64 (2 * s2.2)) + 1)))) fun o29 =>
  (gidx s2.1 (w64 (first_3 + s2.2))).bind fun x32 =>
  (gidx s2.1 (w64 (first_3 + o29))).bind fun x39 =>
  (cmp x32 x39).bind fun r47 =>
  (bif !(decide (r47 < 0)) then
  some (.inr (.inr s2.1))
 else
  (gidx s2.1 (w64 (first_3 + o29))).bind fun x52 =>
  (gidx s2.1 (w64 (first_3 + s2.2))).bind fun x59 =>
  (gidx s2.1 (w64 (first_3 + s2.2))).bind fun x66 =>
  (gidx (s2.1.set (w64 (first_3 + s2.2)).toNat x52) (w64 (first_3 + o29))).bind fun x72 =>
  some (.inl (((s2.1.set (w64 (first_3 + s2.2)).toNat x52).set (w64 (first_3 + o29)).toNat x59), o29))))) (data_0, lo_1)) (selim (fun t78 => some t78)
   (fun t81 => some t81))

noncomputable def G.heap {α : Type} (cmp : α → α → Option Int) (data_0 : List α) (a_1 : Int) (b_2 : Int) : Option ((List α)) :=
  Option.bind (loopM (fun (s2 : (List α) × (Int)) => (bif decide (0 ≤ s2.2) then
  (G.sift cmp s2.1 s2.2 (w64 (b_2 - a_1)) a_1).bind fun r6 =>
  some (.inl (r6, w64 (s2.2 - 1)))
 else
  some (.inr s2.1))) (data_0, w64 ((w64 ((w64 (b_2 - a_1)) - 1)).tdiv 2))) fun o1 =>
  Option.bind (loopM (fun (s14 : (List α) × (Int)) => (bif decide (0 ≤ s14.2) then
  (gidx s14.1 (w64 (a_1 + s14.2))).bind fun x18 =>
  (gidx s14.1 a_1).bind fun x25 =>
  (gidx s14.1 a_1).bind fun x32 =>
  (gidx (s14.1.set a_1.toNat x18) (w64 (a_1 + s14.2))).bind fun x38 =>
  (G.sift cmp ((s14.1.set a_1.toNat x18).set (w64 (a_1 + s14.2)).toNat x25) 0 s14.2 a_1).bind fun r44 =>
  some (.inl (r44, w64 (s14.2 - 1)))
 else
  some (.inr s14.1))) (o1, w64 ((w64 (b_2 - a_1)) - 1))) fun o13 =>
  some o13

noncomputable def G.o2 {α : Type} (cmp : α → α → Option Int) (data_0 : List α) (a_1 : Int) (b_2 : Int) (swaps_3 : Int) : Option (Int × Int × Int) :=
  (gidx data_0 b_2).bind fun x1 =>
  (gidx data_0 a_1).bind fun x8 =>
  (cmp x1 x8).bind fun r16 =>
  (bif decide (r16 < 0) then
  some (b_2, a_1, w64 (swaps_3 + 1))
 else
  some (a_1, b_2, swaps_3))

section
end
end Go.Vs

namespace Go.Vs

section
variable {α : Type} [Inhabited α]
def el (d : List α) (i : Nat) : α := d.getD i default
theorem el_lt {d : List α} {i : Nat} (h : i < d.length) : el d i = d[i] := by simp [el, List.getD, h]
theorem gidx_el {d : List α} {i : Nat} (h : i < d.length) : gidx d (i : Int) = some (el d i) := by rw [gidx_nat h, el_lt h]
theorem el_set {d : List α} {i k : Nat} {x : α} (h : i < d.length) : el (d.set i x) k = if k = i then x else el d k := by
  unfold el
  simp only [List.getD_eq_getElem?_getD, List.getElem?_set]
  by_cases e : i = k
  · subst e; simp [h]
  · simp [e, Ne.symm e]
def swp (d : List α) (i j : Nat) : List α := (d.set i (el d j)).set j (el d i)
theorem swp_len {d : List α} {i j : Nat} : (swp d i j).length = d.length := by simp [swp]
theorem el_swp {d : List α} {i j k : Nat} (hi : i < d.length) (hj : j < d.length) : el (swp d i j) k = if k = j then el d i else if k = i then el d j else el d k := by
  unfold swp
  rw [el_set (by simpa using hj), el_set hi]
theorem swp_perm {d : List α} {i j : Nat} (hi : i < d.length) (hj : j < d.length) : (swp d i j).Perm d := by
  unfold swp
  rw [el_lt hi, el_lt hj]
  exact List.set_set_perm hi hj

/-- d' is d with the places a ≤ i < b permuted among themselves. -/
structure PermR (a b : Nat) (d d' : List α) : Prop where
  len : d'.length = d.length
  out : ∀ i, i < a ∨ b ≤ i → el d' i = el d i
  perm : d'.Perm d
theorem PermR.refl {a b : Nat} (d : List α) : PermR a b d d := ⟨rfl, fun _ _ => rfl, List.Perm.refl _⟩
theorem PermR.trans {a b : Nat} {d d' d'' : List α} (h : PermR a b d d') (k : PermR a b d' d'') : PermR a b d d'' :=
  ⟨k.len.trans h.len, fun i hi => (k.out i hi).trans (h.out i hi), k.perm.trans h.perm⟩
theorem PermR.mono {a b a' b' : Nat} {d d' : List α} (h : PermR a b d d') (ha : a' ≤ a) (hb : b ≤ b') : PermR a' b' d d' :=
  ⟨h.len, fun i hi => h.out i (by omega), h.perm⟩
theorem PermR.swp {a b i j : Nat} {d : List α} (h1 : a ≤ i) (h2 : i < b) (h3 : a ≤ j) (h4 : j < b) (h5 : b ≤ d.length) : PermR a b d (swp d i j) :=
  ⟨swp_len, fun k hk => by rw [el_swp (by omega) (by omega), if_neg (by omega), if_neg (by omega)], swp_perm (by omega) (by omega)⟩
/-- What is in the part is in the part. -/
theorem PermR.mem {a b : Nat} {d d' : List α} (h : PermR a b d d') (hab : a ≤ b) (hb : b ≤ d.length) {i : Nat} (h1 : a ≤ i) (h2 : i < b) : ∃ j, a ≤ j ∧ j < b ∧ el d' i = el d j := by
  have cut : ∀ (e : List α), e.length = d.length → e = e.take a ++ ((e.take b).drop a ++ e.drop b) := by
    intro e he
    rw [← List.append_assoc]
    have : e.take a ++ (e.take b).drop a = e.take b := by
      have := List.take_append_drop a (e.take b)
      rwa [List.take_take, Nat.min_eq_left hab] at this
    rw [this, List.take_append_drop]
  have hl := h.len
  have e1 : d'.take a = d.take a := by
    apply List.ext_getElem
    · simp [hl]
    · intro k h3 h4
      simp only [List.length_take] at h3 h4
      rw [List.getElem_take, List.getElem_take, ← el_lt, ← el_lt]
      exact h.out k (by omega)
  have e2 : d'.drop b = d.drop b := by
    apply List.ext_getElem
    · simp [hl]
    · intro k h3 h4
      simp only [List.length_drop] at h3 h4
      rw [List.getElem_drop, List.getElem_drop, ← el_lt, ← el_lt]
      exact h.out (b + k) (by omega)
  have hp := h.perm
  rw [cut d' hl, cut d rfl, e1, e2] at hp
  have hp2 := (List.perm_append_right_iff _).1 ((List.perm_append_left_iff _).1 hp)
  have hm : el d' i ∈ (d'.take b).drop a := by
    rw [el_lt (by omega)]
    refine List.mem_iff_getElem.2 ⟨i - a, by simp; omega, ?_⟩
    simp only [List.getElem_drop, List.getElem_take]
    congr 1; omega
  have hm2 := hp2.mem_iff.1 hm
  obtain ⟨k, hk, e⟩ := List.mem_iff_getElem.1 hm2
  simp only [List.length_drop, List.length_take] at hk
  refine ⟨a + k, by omega, by omega, ?_⟩
  rw [← e, el_lt (by omega)]
  simp only [List.getElem_drop, List.getElem_take]
end

/-- What is asked of the order of these elements. -/
structure Lin {α : Type} (lt : α → α → Bool) (p : α → Prop) : Prop where
  irrefl : ∀ x, p x → lt x x = false
  trans : ∀ x y z, p x → p y → p z → lt x y = true → lt y z = true → lt x z = true
  total : ∀ x y, p x → p y → x ≠ y → lt x y = true ∨ lt y x = true
theorem Lin.asymm {α : Type} {lt : α → α → Bool} {p : α → Prop} (h : Lin lt p) {x y : α} (hx : p x) (hy : p y) (hl : lt x y = true) : lt y x = false := by
  cases e : lt y x with
  | false => rfl
  | true => have := h.trans x y x hx hy hx hl e; rw [h.irrefl x hx] at this; cases this
/-- Not less than: transitive. -/
theorem Lin.ntrans {α : Type} {lt : α → α → Bool} {p : α → Prop} (h : Lin lt p) {x y z : α} (hx : p x) (hy : p y) (hz : p z) (h1 : lt x y = false) (h2 : lt y z = false) : lt x z = false := by
  cases e : lt x z with
  | false => rfl
  | true =>
    rcases Classical.em (x = y) with rfl | hne
    · rw [h2] at e; cases e
    · rcases h.total x y hx hy hne with h' | h'
      · rw [h1] at h'; cases h'
      · have := h.trans y x z hy hx hz h' e
        rw [h2] at this; cases this
def CmpOk {α : Type} (cmp : α → α → Option Int) (lt : α → α → Bool) (p : α → Prop) : Prop := ∀ x y, p x → p y → ∃ r, cmp x y = some r ∧ decide (r < 0) = lt x y

def AllP {α : Type} [Inhabited α] (p : α → Prop) (d : List α) : Prop := ∀ i, i < d.length → p (el d i)
theorem AllP.of {α : Type} [Inhabited α] {p : α → Prop} {d : List α} (h : ∀ x ∈ d, p x) : AllP p d := fun i hi => h _ (by rw [el_lt hi]; exact List.getElem_mem _)
theorem AllP.perm {α : Type} [Inhabited α] {p : α → Prop} {d d' : List α} (h : AllP p d) (hp : d'.Perm d) : AllP p d' := by
  refine AllP.of fun x hx => ?_
  obtain ⟨i, hi, e⟩ := List.mem_iff_getElem.1 (hp.mem_iff.1 hx)
  rw [← e, ← el_lt hi]; exact h i hi
/-- Ascending on a ≤ i < b. -/
def Asc {α : Type} [Inhabited α] (lt : α → α → Bool) (a b : Nat) (d : List α) : Prop := ∀ i j, a ≤ i → i < j → j < b → lt (el d j) (el d i) = false
end Go.Vs

namespace Go.Vs

theorem w64_pred {j : Nat} (h : 1 ≤ j) (h2 : j < 4000000000000000000) : w64 ((j : Int) - 1) = ((j - 1 : Nat) : Int) := by rw [w64_id (by omega) (by omega)]; omega

section
variable {α : Type} {cmp : α → α → Option Int} {lt : α → α → Bool} {p : α → Prop}
theorem cmp_of (hc : CmpOk cmp lt p) {x y : α} (hx : p x) (hy : p y) : (cmp x y).bind (fun r => some (decide (r < 0))) = some (lt x y) := by
  obtain ⟨r, h1, h2⟩ := hc x y hx hy
  rw [h1, Option.bind_some, h2]
end

section
variable {α : Type} [Inhabited α] {cmp : α → α → Option Int} {lt : α → α → Bool} {p : α → Prop}
theorem gidx_set {d : List α} {i j : Nat} {x : α} (hj : j < d.length) : gidx (d.set i x) (j : Int) = some (el (d.set i x) j) := gidx_el (by simpa using hj)
theorem swp_def (d : List α) (i j : Nat) : (d.set i (el d j)).set j (el d i) = swp d i j := rfl
theorem ins_inner (hc : CmpOk cmp lt p) (hl : Lin lt p) {a i : Nat} {d0 : List α} (hi : i < d0.length) (hn : d0.length < 1000000000) (hp : AllP p d0) : ∀ (d : List α) (j : Nat), a ≤ j → j ≤ i → PermR a (i + 1) d0 d →
    (∀ x y, a ≤ x → x < y → y ≤ i → x ≠ j → y ≠ j → lt (el d y) (el d x) = false) → (∀ y, j < y → y ≤ i → lt (el d y) (el d j) = false) →
    ∃ d', loopM (fun (s7 : (List α) × (Int)) => Option.bind ((bif decide ((a : Int) < s7.2) then
  (gidx s7.1 s7.2).bind fun x12 =>
  (gidx s7.1 (w64 (s7.2 - 1))).bind fun x19 =>
  (cmp x12 x19).bind fun r27 =>
  some (decide (r27 < 0))
 else
  some false)) fun o10 =>
  (bif o10 then
  (gidx s7.1 (w64 (s7.2 - 1))).bind fun x34 =>
  (gidx s7.1 s7.2).bind fun x41 =>
  (gidx s7.1 s7.2).bind fun x48 =>
  (gidx (s7.1.set s7.2.toNat x34) (w64 (s7.2 - 1))).bind fun x54 =>
  some (.inl (((s7.1.set s7.2.toNat x34).set (w64 (s7.2 - 1)).toNat x41), w64 (s7.2 - 1)))
 else
  some (.inr s7.1))) (d, (j : Int)) = some d' ∧ PermR a (i + 1) d0 d' ∧ Asc lt a (i + 1) d' := by
  intro d j
  induction j generalizing d with
  | zero =>
    intro ha _ hP h1 h2
    have e1 : decide ((a : Int) < ((0 : Nat) : Int)) = false := decide_eq_false (by omega)
    rw [loopM_eq]
    simp only [e1, cond_false, Option.bind_some, selim]
    refine ⟨d, rfl, hP, fun x y hx hxy hy => ?_⟩
    by_cases hx0 : x = 0
    · subst hx0; exact h2 y hxy (by omega)
    · exact h1 x y hx hxy (by omega) hx0 (by omega)
  | succ j ih =>
    intro ha hji hP h1 h2
    have hlen := hP.len
    have hpd := hp.perm hP.perm
    have ej : w64 (((j + 1 : Nat) : Int) - 1) = (j : Int) := w64_pred (by omega) (by omega)
    rw [loopM_eq]
    by_cases haj : a < j + 1
    · have e1 : decide ((a : Int) < ((j + 1 : Nat) : Int)) = true := decide_eq_true (by omega)
      simp only [e1, cond_true, ej, gidx_el (d := d) (i := j + 1) (by omega), gidx_el (d := d) (i := j) (by omega), Option.bind_some, cmp_of hc (hpd (j + 1) (by omega)) (hpd j (by omega))]
      cases hlt : lt (el d (j + 1)) (el d j) with
      | true =>
        simp only [cond_true, gidx_set (d := d) (i := j + 1) (j := j) (x := el d j) (by omega), Option.bind_some, Int.toNat_natCast, swp_def, selim]
        have sw : ∀ k, el (swp d (j + 1) j) k = if k = j then el d (j + 1) else if k = j + 1 then el d j else el d k := fun k => el_swp (by omega) (by omega)
        refine ih (swp d (j + 1) j) (by omega) (by omega) (hP.trans (PermR.swp (by omega) (by omega) (by omega) (by omega) (by omega))) ?_ ?_
        · intro x y hx hxy hy hxj hyj
          rw [sw, sw, if_neg hyj, if_neg hxj]
          by_cases hyj1 : y = j + 1
          · subst hyj1
            rw [if_pos rfl, if_neg (by omega)]
            exact h1 x j hx (by omega) (by omega) (by omega) (by omega)
          · rw [if_neg hyj1]
            by_cases hxj1 : x = j + 1
            · subst hxj1
              rw [if_pos rfl]
              exact h1 j y (by omega) (by omega) hy (by omega) hyj1
            · rw [if_neg hxj1]
              exact h1 x y hx hxy hy hxj1 hyj1
        · intro y hy hyi
          rw [sw, sw, if_neg (by omega), if_pos rfl]
          by_cases hyj1 : y = j + 1
          · subst hyj1
            rw [if_pos rfl]
            exact hl.asymm (hpd _ (by omega)) (hpd _ (by omega)) hlt
          · rw [if_neg hyj1]
            exact h2 y (by omega) hyi
      | false =>
        simp only [cond_false, selim]
        refine ⟨d, rfl, hP, fun x y hx hxy hy => ?_⟩
        by_cases hxj : x = j + 1
        · subst hxj; exact h2 y hxy (by omega)
        · by_cases hyj : y = j + 1
          · subst hyj
            by_cases hxj2 : x = j
            · subst hxj2; exact hlt
            · exact hl.ntrans (hpd _ (by omega)) (hpd j (by omega)) (hpd _ (by omega)) hlt (h1 x j hx (by omega) (by omega) hxj (by omega))
          · exact h1 x y hx hxy (by omega) hxj hyj
    · have e1 : decide ((a : Int) < ((j + 1 : Nat) : Int)) = false := decide_eq_false (by omega)
      have : a = j + 1 := by omega
      simp only [e1, cond_false, Option.bind_some, selim]
      refine ⟨d, rfl, hP, fun x y hx hxy hy => ?_⟩
      by_cases hx0 : x = j + 1
      · subst hx0; exact h2 y hxy (by omega)
      · exact h1 x y hx hxy (by omega) hx0 (by omega)
end
end Go.Vs

namespace Go.Vs

section
variable {α : Type} [Inhabited α] {cmp : α → α → Option Int} {lt : α → α → Bool} {p : α → Prop}
end
end Go.Vs

namespace Go.Vs

section
variable {α : Type} [Inhabited α] {cmp : α → α → Option Int} {lt : α → α → Bool} {p : α → Prop}

/-- What the partition gives. -/
structure Parted (lt : α → α → Bool) (a b : Nat) (d : List α) (m : Nat) (d' : List α) : Prop where
  ge : a ≤ m
  le : m < b
  perm : PermR a b d d'
  low : ∀ i, a ≤ i → i < m → lt (el d' i) (el d' m) = true
  high : ∀ i, m < i → i < b → lt (el d' i) (el d' m) = false
end
end Go.Vs

namespace Go.Vs

section
variable {α : Type} [Inhabited α] {cmp : α → α → Option Int} {lt : α → α → Bool} {p : α → Prop}

/-- Ascending, but for pairs that are both in the part. -/
def NIn (lt : α → α → Bool) (a0 b0 a b : Nat) (d : List α) : Prop := ∀ i j, a0 ≤ i → i < j → j < b0 → ¬ (a ≤ i ∧ j < b) → lt (el d j) (el d i) = false
theorem NIn.perm {a0 b0 a b : Nat} {d d' : List α} (h : NIn lt a0 b0 a b d) (hP : PermR a b d d') (ha : a0 ≤ a) (hab : a ≤ b) (hb : b ≤ b0) (hb0 : b0 ≤ d.length) : NIn lt a0 b0 a b d' := by
  intro i j h1 h2 h3 h4
  have cl : ∀ k, ∃ k', el d' k = el d k' ∧ ((a ≤ k ∧ k < b) → a ≤ k' ∧ k' < b) ∧ (¬ (a ≤ k ∧ k < b) → k' = k) := by
    intro k
    by_cases hk : a ≤ k ∧ k < b
    · obtain ⟨k', g1, g2, g3⟩ := hP.mem hab (by omega) hk.1 hk.2
      exact ⟨k', g3, fun _ => ⟨g1, g2⟩, fun h => absurd hk h⟩
    · exact ⟨k, hP.out k (by omega), fun h => absurd h hk, fun _ => rfl⟩
  obtain ⟨i', e1, q1, q2⟩ := cl i
  obtain ⟨j', e2, q3, q4⟩ := cl j
  rw [e1, e2]
  by_cases hi : a ≤ i ∧ i < b
  · have := q1 hi
    by_cases hj : a ≤ j ∧ j < b
    · exact absurd ⟨hi.1, hj.2⟩ h4
    · have := q4 hj; subst this; exact h i' j' (by omega) (by omega) h3 (by omega)
  · have := q2 hi; subst this
    by_cases hj : a ≤ j ∧ j < b
    · have := q3 hj; exact h i' j' h1 (by omega) (by omega) (by omega)
    · have := q4 hj; subst this; exact h i' j' h1 h2 h3 (by omega)
theorem NIn.done {a0 b0 a b : Nat} {d : List α} (h : NIn lt a0 b0 a b d) (hA : Asc lt a b d) : Asc lt a0 b0 d := by
  intro i j h1 h2 h3
  by_cases hc : a ≤ i ∧ j < b
  · exact hA i j hc.1 h2 hc.2
  · exact h i j h1 h2 h3 hc
end
end Go.Vs

namespace Go.Vs

abbrev Hit := Int × Int
/-- Which one of two hits is nearer. -/
def ltH (x y : Hit) : Bool := decide (x.2 < y.2 ∨ x.2 = y.2 ∧ x.1 < y.1)
theorem ltH_iff {x y : Hit} : ltH x y = true ↔ x.2 < y.2 ∨ x.2 = y.2 ∧ x.1 < y.1 := by simp [ltH]
theorem ltH_false {x y : Hit} : ltH x y = false ↔ ¬ (x.2 < y.2 ∨ x.2 = y.2 ∧ x.1 < y.1) := by simp [ltH]
theorem linH : Lin ltH (fun _ => True) where
  irrefl x _ := by rw [ltH_false]; omega
  trans x y z _ _ _ h1 h2 := by rw [ltH_iff] at *; omega
  total x y _ _ h := by
    rw [ltH_iff, ltH_iff]
    by_cases e : x.2 = y.2
    · have : x.1 ≠ y.1 := fun e2 => h (Prod.ext e2 e)
      omega
    · omega
end Go.Vs

namespace Go.Vs

/-- Into its place. -/
def insH (x : Hit) : List Hit → List Hit
  | [] => [x]
  | y :: r => if ltH x y then x :: y :: r else y :: insH x r
def AscH (l : List Hit) : Prop := l.Pairwise fun x y => ltH y x = false
theorem insH_perm (x : Hit) (l : List Hit) : (insH x l).Perm (x :: l) := by
  induction l with
  | nil => exact List.Perm.refl _
  | cons y r ih =>
    unfold insH
    split
    · exact List.Perm.refl _
    · exact (List.Perm.cons y ih).trans (List.Perm.swap x y r)
theorem insH_asc {x : Hit} {l : List Hit} (h : AscH l) : AscH (insH x l) := by
  induction l with
  | nil => exact List.pairwise_singleton _ _
  | cons y r ih =>
    obtain ⟨h1, h2⟩ := List.pairwise_cons.1 h
    unfold insH
    split
    · rename_i hlt
      refine List.pairwise_cons.2 ⟨fun z hz => ?_, h⟩
      rcases List.mem_cons.1 hz with rfl | hz
      · exact linH.asymm trivial trivial hlt
      · exact linH.ntrans trivial trivial trivial (h1 z hz) (linH.asymm trivial trivial hlt)
    · rename_i hlt
      refine List.pairwise_cons.2 ⟨fun z hz => ?_, ih h2⟩
      rcases List.mem_cons.1 ((insH_perm x r).mem_iff.1 hz) with rfl | hz
      · simpa using hlt
      · exact h1 z hz
theorem ltH_antisymm {x y : Hit} (h1 : ltH x y = false) (h2 : ltH y x = false) : x = y := by
  rcases Classical.em (x = y) with h | h
  · exact h
  · rcases linH.total x y trivial trivial h with h' | h'
    · rw [h1] at h'; cases h'
    · rw [h2] at h'; cases h'
theorem asc_uniq {l m : List Hit} (hl : AscH l) (hm : AscH m) (h : l.Perm m) : l = m :=
  List.Perm.eq_of_pairwise (le := fun x y => ltH y x = false) (fun _ _ _ _ h1 h2 => ltH_antisymm h2 h1) hl hm h
theorem insH_len (x : Hit) (l : List Hit) : (insH x l).length = l.length + 1 := by rw [(insH_perm x l).length_eq]; rfl
theorem insH_take (x : Hit) : ∀ (k : Nat) (l : List Hit), (insH x (l.take k)).take k = (insH x l).take k
  | 0, l => by simp
  | k + 1, [] => by simp
  | k + 1, y :: r => by
    rw [List.take_succ_cons]
    unfold insH
    split
    · rw [List.take_succ_cons, List.take_succ_cons]
      cases k with
      | zero => simp
      | succ k => simp [List.take_take]
    · rw [List.take_succ_cons, List.take_succ_cons, insH_take x k r]
/-- All in order. -/
def isort (l : List Hit) : List Hit := l.foldl (fun S x => insH x S) []
theorem isort_spec (l : List Hit) : AscH (isort l) ∧ (isort l).Perm l := by
  have key : ∀ (l S : List Hit), AscH S → AscH (l.foldl (fun S x => insH x S) S) ∧ (l.foldl (fun S x => insH x S) S).Perm (S ++ l) := by
    intro l
    induction l with
    | nil => intro S h; exact ⟨h, by simp⟩
    | cons x r ih =>
      intro S h
      obtain ⟨h1, h2⟩ := ih (insH x S) (insH_asc h)
      refine ⟨h1, h2.trans ?_⟩
      have := List.Perm.append_right r (insH_perm x S)
      exact this.trans (List.perm_middle.symm)
  exact key l [] List.Pairwise.nil
theorem isort_snoc (l : List Hit) (x : Hit) : isort (l ++ [x]) = insH x (isort l) := by simp [isort]
theorem isort_len (l : List Hit) : (isort l).length = l.length := (isort_spec l).2.length_eq
theorem isort_uniq {l m : List Hit} (hm : AscH m) (h : m.Perm l) : isort l = m := asc_uniq (isort_spec l).1 hm ((isort_spec l).2.trans h.symm)
def topH (k : Nat) (l : List Hit) : List Hit := (isort l).take k
theorem topH_snoc (k : Nat) (l : List Hit) (x : Hit) : topH k (l ++ [x]) = (insH x (topH k l)).take k := by
  unfold topH; rw [isort_snoc, insH_take]
theorem topH_asc (k : Nat) (l : List Hit) : AscH (topH k l) := (isort_spec l).1.sublist (List.take_sublist _ _)
theorem topH_len (k : Nat) (l : List Hit) : (topH k l).length = min k l.length := by simp [topH, isort_len]
/-! ## What the heap keeps -/
/-! ## The searches -/
theorem nearer_ok (x y : Hit) : M.spec_nearer (x.1, x.2) (y.1, y.2) = some (ltH x y) := by
  unfold M.spec_nearer ltH
  by_cases h1 : x.2 < y.2
  · simp [h1]
  · by_cases h2 : x.2 = y.2
    · simp [h2]
    · have h3 : (x.2 == y.2) = false := beq_eq_false_iff_ne.2 h2
      simp [h1, h2, h3]
def cmpT : Hit → Hit → Option Int := fun x y => some (if ltH x y then -1 else 0)
theorem cmpT_ok : CmpOk cmpT ltH (fun _ => True) := fun x y _ _ => ⟨_, rfl, by cases h : ltH x y <;> simp⟩
theorem addHit_ok {S : List Hit} {k : Nat} (hS : AscH S) (hl : S.length ≤ 1000) (hk : k ≤ 1000) (x : Hit) : M.spec_addHit S (x.1, x.2) (k : Int) = some ((insH x S).take k) := by
  unfold M.spec_addHit
  rw [gapp_ok (by simp; omega)]
  simp only [Option.bind_some, List.nil_append]
  rw [gapp_ok (by simp; omega)]
  simp only [Option.bind_some]
  have hlen : (S ++ [(x.1, x.2)]).length = S.length + 1 := by simp
  have e1 : w64 (((S ++ [(x.1, x.2)]).length : Int) - 1) = (S.length : Int) := by rw [hlen, w64_id (by omega) (by omega)]; omega
  have hf : (fun (s17 : (List (Int × Int)) × (Int)) => Option.bind ((bif decide (0 < s17.2) then
  (gidx s17.1 s17.2).bind fun x22 =>
  (gidx s17.1 (w64 (s17.2 - 1))).bind fun x29 =>
  (M.spec_nearer (x22.1, x22.2) (x29.1, x29.2)).bind fun r37 =>
  some r37
 else
  some false)) fun o20 =>
  (bif o20 then
  (gidx s17.1 s17.2).bind fun x44 =>
  (gidx s17.1 (w64 (s17.2 - 1))).bind fun x54 =>
  (gidx s17.1 s17.2).bind fun x61 =>
  (gidx (s17.1.set s17.2.toNat (x54.1, x54.2)) (w64 (s17.2 - 1))).bind fun x68 =>
  some (.inl (((s17.1.set s17.2.toNat (x54.1, x54.2)).set (w64 (s17.2 - 1)).toNat (x44.1, x44.2)), w64 (s17.2 - 1)))
 else
  some (.inr s17.1) : Option ((List Hit × Int) ⊕ List Hit))) = (fun (s7 : (List Hit) × (Int)) => Option.bind ((bif decide (((0 : Nat) : Int) < s7.2) then
  (gidx s7.1 s7.2).bind fun x12 =>
  (gidx s7.1 (w64 (s7.2 - 1))).bind fun x19 =>
  (cmpT x12 x19).bind fun r27 =>
  some (decide (r27 < 0))
 else
  some false)) fun o10 =>
  (bif o10 then
  (gidx s7.1 (w64 (s7.2 - 1))).bind fun x34 =>
  (gidx s7.1 s7.2).bind fun x41 =>
  (gidx s7.1 s7.2).bind fun x48 =>
  (gidx (s7.1.set s7.2.toNat x34) (w64 (s7.2 - 1))).bind fun x54 =>
  some (.inl (((s7.1.set s7.2.toNat x34).set (w64 (s7.2 - 1)).toNat x41), w64 (s7.2 - 1)))
 else
  some (.inr s7.1))) := by
    funext s
    have ec : ∀ a b : Hit, ((M.spec_nearer (a.1, a.2) (b.1, b.2)).bind fun r37 => some r37) = ((cmpT a b).bind fun r27 => some (decide (r27 < 0))) := by
      intro a b
      rw [nearer_ok, cmp_of cmpT_ok trivial trivial]; rfl
    have ec2 : ∀ (a : Option Hit) (b : Option Hit) (c : Option Hit) (g : Hit → Option Hit) (F : Hit → Hit → Option ((List Hit × Int) ⊕ List Hit)), (a.bind fun x44 => b.bind fun x54 => c.bind fun x61 => (g x54).bind fun _ => F x54 x44) = (b.bind fun x34 => a.bind fun x41 => c.bind fun x48 => (g x34).bind fun _ => F x34 x41) := by
      intro a b c g F
      cases a <;> cases b <;> rfl
    simp only [ec, Int.cast_ofNat_Int]
    congr 1
    funext o
    cases o with
    | false => rfl
    | true => exact ec2 (gidx s.1 s.2) (gidx s.1 (w64 (s.2 - 1))) (gidx s.1 s.2) (fun y => gidx (s.1.set s.2.toNat y) (w64 (s.2 - 1))) (fun y z => some (.inl (((s.1.set s.2.toNat y).set (w64 (s.2 - 1)).toNat z), w64 (s.2 - 1))))
  rw [hf, e1]
  have ea : ∀ i, i < S.length → el (S ++ [(x.1, x.2)]) i = el S i := fun i hi => by rw [el_lt (by omega), el_lt hi, List.getElem_append_left hi]
  obtain ⟨d', h1, h2, h3⟩ := ins_inner cmpT_ok linH (a := 0) (i := S.length) (d0 := S ++ [(x.1, x.2)]) (by omega) (by omega) (fun _ _ => trivial) (S ++ [(x.1, x.2)]) S.length (Nat.zero_le _) (Nat.le_refl _) (PermR.refl _)
    (fun u v _ huv hv hu' hv' => by
      rw [ea u (by omega), ea v (by omega), el_lt (by omega), el_lt (by omega)]
      exact List.pairwise_iff_getElem.1 hS u v _ _ huv) (fun y h h' => by omega)
  rw [h1]
  have hdl : d'.length = S.length + 1 := by rw [h2.len, hlen]
  have hasc : AscH d' := by
    refine List.pairwise_iff_getElem.2 fun i j hi hj hij => ?_
    have := h3 i j (Nat.zero_le _) hij (by omega)
    rwa [el_lt hi, el_lt hj] at this
  have hd : d' = insH x S := asc_uniq hasc (insH_asc hS) (h2.perm.trans ((List.perm_append_comm (l₁ := S) (l₂ := [x])).trans (insH_perm x S).symm))
  have hil := insH_len x S
  simp only [Option.bind_some]
  rw [hd, gslice_ok (by omega) (by omega) (by omega)]
  simp only [Option.bind_some, Int.toNat_zero, List.drop_zero, Option.some.injEq]
  by_cases hc : k ≤ (insH x S).length
  · rw [show (min (k : Int) ((insH x S).length : Int)).toNat = k by omega]
  · rw [show (min (k : Int) ((insH x S).length : Int)).toNat = (insH x S).length by omega, List.take_length, List.take_of_length_le (by omega)]

theorem inRange_ok (n a b : Int) : M.spec_inRange n a b = some (decide (a ≤ n ∧ n ≤ b)) := by
  unfold M.spec_inRange
  by_cases h : a ≤ n <;> simp [h]
end Go.Vs

namespace Go.Vs

end Go.Vs

namespace Go.Vs

end Go.Vs

namespace Go.Vs

end Go.Vs

namespace Go.Vs

end Go.Vs

namespace Go.Vs

end Go.Vs

namespace Go.Vs

end Go.Vs

namespace Go.Vs

/-- Items that may be put into a tree. -/
structure OkL (l : List Item) : Prop where
  len : l.length ≤ 16
  vec : ∀ x ∈ l, isVec x.2.1 = true
  keys : (l.map (·.1)).Nodup
theorem OkL.inj {l : List Item} (h : OkL l) : ∀ x y, x ∈ l → y ∈ l → x.1 = y.1 → x = y := fun x y hx hy e => by
  obtain ⟨i, hi, rfl⟩ := List.mem_iff_getElem.1 hx
  obtain ⟨j, hj, rfl⟩ := List.mem_iff_getElem.1 hy
  have hpw := List.pairwise_iff_getElem.1 (List.pairwise_map.1 h.keys)
  rcases Nat.lt_trichotomy i j with h | h | h
  · exact absurd e (hpw i j hi hj h)
  · subst h; rfl
  · exact absurd e.symm (hpw j i hj hi h)
theorem OkL.sub {l m : List Item} (h : OkL l) (hs : List.Sublist m l) : OkL m :=
  ⟨Nat.le_trans hs.length_le h.len, fun x hx => h.vec x (hs.subset hx), List.Nodup.sublist (hs.map _) h.keys⟩
theorem OkL.perm {l m : List Item} (h : OkL l) (hp : m.Perm l) : OkL m :=
  ⟨by rw [hp.length_eq]; exact h.len, fun x hx => h.vec x (hp.mem_iff.1 hx), (hp.map (·.1)).nodup_iff.2 h.keys⟩

end Go.Vs

namespace Go.Vs

abbrev Nod := Int × Int × Int × Int
def nodesT : Tr Item → Nat → List Nod
  | .nil, _ => []
  | .node x n l r, a => (x.1, n, (bif l.isNil then -1 else ((a + 1 : Nat) : Int)), (bif r.isNil then -1 else ((a + 1 + (nodesT l (a + 1)).length : Nat) : Int))) :: (nodesT l (a + 1) ++ nodesT r (a + 1 + (nodesT l (a + 1)).length))
def Tr.size : Tr Item → Nat
  | .nil => 0
  | .node _ _ l r => l.size + r.size + 1
theorem nodesT_len : ∀ (t : Tr Item) (a : Nat), (nodesT t a).length = t.size
  | .nil, _ => rfl
  | .node x n l r, a => by simp only [nodesT, List.length_cons, List.length_append, nodesT_len l, nodesT_len r, Tr.size]
end Go.Vs

namespace Go.Vs

end Go.Vs

namespace Go.Vs

end Go.Vs

namespace Go.Vs

end Go.Vs

namespace Go.Vs

def itemsT : Tr Item → List Item
  | .nil => []
  | .node x _ l r => x :: (itemsT l ++ itemsT r)
/-- A tree's nodes stand in a list, from a place on. -/
def Sub (L : List Nod) (t : Tr Item) (a : Nat) : Prop := ∃ pre post, L = pre ++ nodesT t a ++ post ∧ pre.length = a
theorem Sub.left {L : List Nod} {x : Item} {q : Int} {l r : Tr Item} {a : Nat} (h : Sub L (.node x q l r) a) : Sub L l (a + 1) := by
  obtain ⟨pre, post, rfl, rfl⟩ := h
  exact ⟨pre ++ (nodesT (.node x q l r) pre.length).take 1, nodesT r (pre.length + 1 + (nodesT l (pre.length + 1)).length) ++ post, by simp [nodesT], by simp [nodesT]⟩
theorem Sub.right {L : List Nod} {x : Item} {q : Int} {l r : Tr Item} {a : Nat} (h : Sub L (.node x q l r) a) : Sub L r (a + 1 + l.size) := by
  obtain ⟨pre, post, rfl, rfl⟩ := h
  exact ⟨pre ++ (nodesT (.node x q l r) pre.length).take 1 ++ nodesT l (pre.length + 1), post, by simp [nodesT, nodesT_len], by simp [nodesT, nodesT_len]; omega⟩
theorem Sub.get {L : List Nod} {x : Item} {q : Int} {l r : Tr Item} {a : Nat} (h : Sub L (.node x q l r) a) : ∃ hl : a < L.length, L[a] = (x.1, q, (bif l.isNil then -1 else ((a + 1 : Nat) : Int)), (bif r.isNil then -1 else ((a + 1 + l.size : Nat) : Int))) := by
  obtain ⟨pre, post, rfl, rfl⟩ := h
  exact ⟨by simp [nodesT], by simp [nodesT, nodesT_len]⟩
theorem Sub.gidx {L : List Nod} {x : Item} {q : Int} {l r : Tr Item} {a : Nat} (h : Sub L (.node x q l r) a) : Go.Vs.gidx L (a : Int) = some (x.1, q, (bif l.isNil then -1 else ((a + 1 : Nat) : Int)), (bif r.isNil then -1 else ((a + 1 + l.size : Nat) : Int))) := by
  obtain ⟨hl, e⟩ := h.get
  rw [gidx_nat hl, e]
theorem sub_self (t : Tr Item) : Sub (nodesT t 0) t 0 := ⟨[], [], by simp, rfl⟩

end Go.Vs

namespace Go.Vs

def hitV (kd : Int) (v : List Int) (x : Item) : Hit := (x.1, dist kd x.2.1 v)
def hitsV (kd : Int) (v : List Int) (l : List Item) : List Hit := l.map (hitV kd v)
/-- How far a search looks. -/
def reachH (k : Nat) (V : List Hit) : Int := if (topH k V).length < k then 1000000 else ((topH k V).getD (k - 1) (0, 0)).2
/-! ## Lists with the same nearest ones -/
def SameT (k : Nat) (U V : List Hit) : Prop := topH k U = topH k V
theorem SameT.refl (k : Nat) (U : List Hit) : SameT k U U := rfl
theorem SameT.trans {k : Nat} {U V W : List Hit} (h : SameT k U V) (g : SameT k V W) : SameT k U W := Eq.trans h g
theorem SameT.symm {k : Nat} {U V : List Hit} (h : SameT k U V) : SameT k V U := Eq.symm h
theorem SameT.perm {k : Nat} {U V : List Hit} (h : U.Perm V) : SameT k U V := by
  show topH k U = topH k V
  unfold topH
  rw [isort_uniq (isort_spec V).1 ((isort_spec V).2.trans h.symm)]
theorem SameT.reach {k : Nat} {U V : List Hit} (h : SameT k U V) : reachH k U = reachH k V := by
  unfold reachH
  rw [h]
/-! ## Trees find the nearest -/
/-! ## At how many nodes they look -/
noncomputable def vis (kd : Int) (v : List Int) (k : Nat) : Tr Item → List Hit → Nat
  | .nil, _ => 0
  | .node x q l r, P =>
    if dist kd x.2.1 v ≤ q then
      vis kd v k l (P ++ [hitV kd v x]) + 1 + (if q - dist kd x.2.1 v ≤ reachH k (P ++ [hitV kd v x] ++ hitsV kd v (itemsT l)) then vis kd v k r (P ++ [hitV kd v x] ++ hitsV kd v (itemsT l)) else 0)
    else
      vis kd v k r (P ++ [hitV kd v x]) + 1 + (if dist kd x.2.1 v - q ≤ reachH k (P ++ [hitV kd v x] ++ hitsV kd v (itemsT r)) then vis kd v k l (P ++ [hitV kd v x] ++ hitsV kd v (itemsT r)) else 0)
end Go.Vs

namespace Go.Vs

theorem addTop_ok {k : Nat} (hk : k ≤ 1000) {V : List Hit} (x : Hit) : M.spec_addHit (topH k V) (x.1, x.2) (k : Int) = some (topH k (V ++ [x])) := by
  rw [addHit_ok (topH_asc k V) (by rw [topH_len]; omega) hk, topH_snoc]
/-! ## The program's search -/
/-! ## What is answered -/
end Go.Vs

namespace Go.Vs

/-! ## Exact laws -/
end Go.Vs

namespace Go.Vs

end Go.Vs

namespace Go.Vs

/-! ## The first of the least -/
def okC (cs : List (List Int)) : Bool := decide (1 ≤ cs.length) && decide (cs.length ≤ 4) && cs.all isVec
theorem okC_iff {cs : List (List Int)} : okC cs = true ↔ (1 ≤ cs.length ∧ cs.length ≤ 4) ∧ ∀ c ∈ cs, isVec c = true := by
  unfold okC; simp [and_assoc]
def SmallC (cs : List (List Int)) : Prop := cs.length < 2000000 ∧ ∀ c ∈ cs, c.length < 2000000
def cD (cs : List (List Int)) (v : List Int) (j : Nat) : Int := dist 3 (cs.getD j []) v
theorem cD_at {cs : List (List Int)} {v : List Int} {j : Nat} (h : j < cs.length) : cD cs v j = dist 3 cs[j] v := by
  unfold cD; simp [List.getD, h]
theorem kind3 : isKind 3 = true := rfl
theorem implVecs_ok {l : List (List Int)} {m : Nat} (s : SmallC l) : M.impl_validVectors l (m : Int) = some (decide (1 ≤ l.length) && decide (l.length ≤ m) && l.all isVec) := by
  unfold M.impl_validVectors
  have hl := s.1
  by_cases h1 : 1 ≤ l.length
  · have e1 : decide ((l.length : Int) < 1) = false := decide_eq_false (by omega)
    by_cases h2 : l.length ≤ m
    · have e2 : decide ((m : Int) < (l.length : Int)) = false := decide_eq_false (by omega)
      simp only [e1, e2, cond_false, Option.bind_some, h1, h2, decide_true, Bool.true_and]
      rw [loop_all (xs := l) (P := isVec) (r := false)]
      · by_cases h : l.all isVec = true
        · rw [if_pos h, h]; rfl
        · rw [if_neg h]; simp only [Bool.not_eq_true] at h; rw [h]; rfl
      · intro i hi
        have e5 : decide ((i : Int) < (l.length : Int)) = true := decide_eq_true (by omega)
        have e6 : w64 ((i : Int) + 1) = (i : Int) + 1 := w64_id (by omega) (by omega)
        simp only [e5, cond_true, gidx_nat hi, Option.bind_some, impl_valid l[i] (s.2 _ (List.getElem_mem hi)), e6]
        cases isVec l[i] <;> simp
      · simp
    · have e2 : decide ((m : Int) < (l.length : Int)) = true := decide_eq_true (by omega)
      simp only [e1, e2, cond_false, cond_true, Option.bind_some, h2, decide_false, Bool.and_false, Bool.false_and]
  · have e1 : decide ((l.length : Int) < 1) = true := decide_eq_true (by omega)
    simp only [e1, cond_true, Option.bind_some, h1, decide_false, Bool.false_and]
theorem implValidC_ok {cs : List (List Int)} (s : SmallC cs) : M.impl_ValidCentres cs = some (okC cs) := by
  unfold M.impl_ValidCentres okC
  have : M.impl_validVectors cs 4 = _ := implVecs_ok (m := 4) s
  simp [this]
theorem specvC_ok {cs : List (List Int)} (s : SmallC cs) : M.spec_validCentres cs = some (okC cs) := by
  unfold M.spec_validCentres okC
  have hl := s.1
  rw [loop_all (xs := cs) (P := isVec) (r := false)]
  · by_cases h : cs.all isVec = true
    · rw [if_pos h, h]
      simp only [Option.bind_some, selim, spec_inR, Bool.and_true]
      congr 1
      rw [Bool.eq_iff_iff]; simp
      omega
    · rw [if_neg h]; simp only [Bool.not_eq_true] at h; rw [h]; simp [selim]
  · intro i hi
    have e5 : decide ((i : Int) < (cs.length : Int)) = true := decide_eq_true (by omega)
    have e6 : w64 ((i : Int) + 1) = (i : Int) + 1 := w64_id (by omega) (by omega)
    simp only [e5, cond_true, gidx_nat hi, Option.bind_some, spec_isVec cs[i] (s.2 _ (List.getElem_mem hi)), e6]
    cases isVec cs[i] <;> simp
  · simp
theorem implDist3 {a b : List Int} (ha : isVec a = true) (hb : isVec b = true) : M.impl_Distance 3 a b = some (dist 3 a b) := implDist_vec ha hb
/-! ## Drawn centres -/
/-! ## Laws -/
theorem SmallC.sub {cs ds : List (List Int)} (h : SmallC cs) (hs : ds.Sublist cs) : SmallC ds := ⟨by have := hs.length_le; have := h.1; omega, fun c hc => h.2 c (hs.subset hc)⟩
/-! ## Items and their centres -/
/-! ## Spreads -/
end Go.Vs

namespace Go.Vs

/-- First by what D says, then by the numbers. -/
def ltN (D : Nat → Int) (x y : Int) : Bool := ltH (x, D x.toNat) (y, D y.toNat)
theorem linN (D : Nat → Int) : Lin (ltN D) (fun _ => True) where
  irrefl x _ := linH.irrefl _ trivial
  trans x y z _ _ _ h1 h2 := linH.trans _ _ _ trivial trivial trivial h1 h2
  total x y _ _ h := linH.total _ _ trivial trivial (by simpa using fun e => absurd e h)
section
variable {cmp : Int → Int → Option Int} {D : Nat → Int} {n : Nat}
/-- How numbers compare: a later one is less only if it is nearer. -/
def CmpN (cmp : Int → Int → Option Int) (D : Nat → Int) (n : Nat) : Prop := ∀ x y : Int, 0 ≤ y → y < x → x < n → ∃ r, cmp x y = some r ∧ decide (r < 0) = ltN D x y
theorem insS_inner (hc : CmpN cmp D n) {i : Nat} {d0 : List Int} (hi : i < d0.length) (hn : d0.length < 1000000000) (hp : ∀ k, k < d0.length → 0 ≤ el d0 k ∧ el d0 k < n) : ∀ (d : List Int) (j : Nat), j ≤ i → PermR 0 (i + 1) d0 d →
    (∀ x y, x < y → y ≤ i → x ≠ j → y ≠ j → ltN D (el d y) (el d x) = false) → (∀ y, j < y → y ≤ i → ltN D (el d y) (el d j) = false) → (∀ y, y < j → el d y < el d j) →
    ∃ d', loopM (fun (s7 : (List Int) × (Int)) => Option.bind ((bif decide (0 < s7.2) then
  (gidx s7.1 s7.2).bind fun x12 =>
  (gidx s7.1 (w64 (s7.2 - 1))).bind fun x19 =>
  (cmp x12 x19).bind fun r27 =>
  some (decide (r27 < 0))
 else
  some false)) fun o10 =>
  (bif o10 then
  (gidx s7.1 (w64 (s7.2 - 1))).bind fun x34 =>
  (gidx s7.1 s7.2).bind fun x41 =>
  (gidx s7.1 s7.2).bind fun x48 =>
  (gidx (s7.1.set s7.2.toNat x34) (w64 (s7.2 - 1))).bind fun x54 =>
  some (.inl (((s7.1.set s7.2.toNat x34).set (w64 (s7.2 - 1)).toNat x41), w64 (s7.2 - 1)))
 else
  some (.inr s7.1))) (d, (j : Int)) = some d' ∧ PermR 0 (i + 1) d0 d' ∧ Asc (ltN D) 0 (i + 1) d' := by
  have hl := linN D
  intro d j
  induction j generalizing d with
  | zero =>
    intro _ hP h1 h2 h3
    have e1 : decide ((0 : Int) < ((0 : Nat) : Int)) = false := decide_eq_false (by omega)
    rw [loopM_eq]
    simp only [e1, cond_false, Option.bind_some, selim]
    refine ⟨d, rfl, hP, fun x y hx hxy hy => ?_⟩
    by_cases hx0 : x = 0
    · subst hx0; exact h2 y hxy (by omega)
    · exact h1 x y hxy (by omega) hx0 (by omega)
  | succ j ih =>
    intro hji hP h1 h2 h3
    have hlen := hP.len
    have hpd : ∀ k, k < d0.length → 0 ≤ el d k ∧ el d k < n := by
      have h := AllP.perm (p := fun x : Int => 0 ≤ x ∧ x < n) hp hP.perm
      exact fun k hk => h k (by omega)
    have ej : w64 (((j + 1 : Nat) : Int) - 1) = (j : Int) := w64_pred (by omega) (by omega)
    rw [loopM_eq]
    have e1 : decide ((0 : Int) < ((j + 1 : Nat) : Int)) = true := decide_eq_true (by omega)
    obtain ⟨r, hr1, hr2⟩ := hc (el d (j + 1)) (el d j) (hpd j (by omega)).1 (h3 j (by omega)) (hpd (j + 1) (by omega)).2
    simp only [e1, cond_true, ej, gidx_el (d := d) (i := j + 1) (by omega), gidx_el (d := d) (i := j) (by omega), Option.bind_some, hr1, hr2]
    cases hlt : ltN D (el d (j + 1)) (el d j) with
    | true =>
      simp only [cond_true, gidx_set (d := d) (i := j + 1) (j := j) (x := el d j) (by omega), Option.bind_some, Int.toNat_natCast, swp_def, selim]
      have sw : ∀ k, el (swp d (j + 1) j) k = if k = j then el d (j + 1) else if k = j + 1 then el d j else el d k := fun k => el_swp (by omega) (by omega)
      refine ih (swp d (j + 1) j) (by omega) (hP.trans (PermR.swp (by omega) (by omega) (by omega) (by omega) (by omega))) ?_ ?_ ?_
      · intro x y hxy hy hxj hyj
        rw [sw, sw, if_neg hyj, if_neg hxj]
        by_cases hyj1 : y = j + 1
        · subst hyj1
          rw [if_pos rfl, if_neg (by omega)]
          exact h1 x j (by omega) (by omega) (by omega) (by omega)
        · rw [if_neg hyj1]
          by_cases hxj1 : x = j + 1
          · subst hxj1
            rw [if_pos rfl]
            exact h1 j y (by omega) hy (by omega) hyj1
          · rw [if_neg hxj1]
            exact h1 x y hxy hy hxj1 hyj1
      · intro y hy hyi
        rw [sw, sw, if_neg (by omega), if_pos rfl]
        by_cases hyj1 : y = j + 1
        · subst hyj1
          rw [if_pos rfl]
          exact hl.asymm trivial trivial hlt
        · rw [if_neg hyj1]
          exact h2 y (by omega) hyi
      · intro y hy
        rw [sw, sw, if_neg (by omega), if_neg (by omega), if_pos rfl]
        exact h3 y (by omega)
    | false =>
      simp only [cond_false, selim]
      refine ⟨d, rfl, hP, fun x y hx hxy hy => ?_⟩
      by_cases hxj : x = j + 1
      · subst hxj; exact h2 y hxy (by omega)
      · by_cases hyj : y = j + 1
        · subst hyj
          by_cases hxj2 : x = j
          · subst hxj2; exact hlt
          · exact hl.ntrans trivial trivial trivial hlt (h1 x j (by omega) (by omega) hxj (by omega))
        · exact h1 x y hxy (by omega) hxj hyj
/-- The numbers from 0 on. -/
def upTo (n : Nat) : List Int := (List.range n).map fun i : Nat => (i : Int)
theorem upTo_len : (upTo n).length = n := by simp [upTo]
theorem upTo_el {k : Nat} (h : k < n) : el (upTo n) k = (k : Int) := by
  rw [el_lt (by rw [upTo_len]; exact h)]; simp [upTo]
theorem insS_ok (hc : CmpN cmp D n) (hn : n < 1000000) : ∃ d', G.ins cmp (upTo n) 0 (n : Int) = some d' ∧ d'.Perm (upTo n) ∧ d'.Pairwise (fun x y => ltN D y x = false) := by
  unfold G.ins
  have e0 : w64 ((0 : Int) + 1) = ((0 + 1 : Nat) : Int) := w64_succ (i := 0) (by omega)
  rw [e0]
  have hul : (upTo n).length = n := upTo_len
  have key : ∀ m i : Nat, ∀ d' : List Int, i + m = max n 1 → 0 < i → PermR 0 i (upTo n) d' → Asc (ltN D) 0 i d' → ∃ r, loopM (fun (s2 : (List Int) × (Int)) => (bif decide (s2.2 < (n : Int)) then
  Option.bind (loopM (fun (s7 : (List Int) × (Int)) => Option.bind ((bif decide (0 < s7.2) then
  (gidx s7.1 s7.2).bind fun x12 =>
  (gidx s7.1 (w64 (s7.2 - 1))).bind fun x19 =>
  (cmp x12 x19).bind fun r27 =>
  some (decide (r27 < 0))
 else
  some false)) fun o10 =>
  (bif o10 then
  (gidx s7.1 (w64 (s7.2 - 1))).bind fun x34 =>
  (gidx s7.1 s7.2).bind fun x41 =>
  (gidx s7.1 s7.2).bind fun x48 =>
  (gidx (s7.1.set s7.2.toNat x34) (w64 (s7.2 - 1))).bind fun x54 =>
  some (.inl (((s7.1.set s7.2.toNat x34).set (w64 (s7.2 - 1)).toNat x41), w64 (s7.2 - 1)))
 else
  some (.inr s7.1))) s2) fun o6 =>
  some (.inl (o6, w64 (s2.2 + 1)))
 else
  some (.inr s2.1))) (d', (i : Int)) = some r ∧ r.Perm (upTo n) ∧ Asc (ltN D) 0 n r := by
    intro m
    induction m with
    | zero =>
      intro i d' hm hi hP hA
      have e1 : decide ((i : Int) < (n : Int)) = false := decide_eq_false (by omega)
      rw [loopM_eq]
      simp only [e1, cond_false, Option.bind_some, selim]
      exact ⟨d', rfl, hP.perm, fun x y hx hxy hy => hA x y hx hxy (by omega)⟩
    | succ m ih =>
      intro i d' hm hi hP hA
      have hlen := hP.len
      have hib : i < n := by omega
      have e1 : decide ((i : Int) < (n : Int)) = true := decide_eq_true (by omega)
      rw [loopM_eq]
      simp only [e1, cond_true]
      have hpd : ∀ k, k < d'.length → 0 ≤ el d' k ∧ el d' k < n := by
        have h := AllP.perm (p := fun x : Int => 0 ≤ x ∧ x < n) (d := upTo n) (fun k hk => by rw [upTo_el (by omega)]; omega) hP.perm
        exact h
      have h3 : ∀ y, y < i → el d' y < el d' i := by
        intro y hy
        obtain ⟨z, _, hz, e⟩ := hP.mem (by omega) (by omega) (i := y) (by omega) hy
        rw [e, hP.out i (.inr (by omega)), upTo_el (by omega), upTo_el hib]
        omega
      obtain ⟨d2, g1, g2, g3⟩ := insS_inner hc (i := i) (d0 := d') (by omega) (by omega) hpd d' i (Nat.le_refl _) (PermR.refl _)
        (fun x y hxy hy hxi hyi => hA x y (by omega) hxy (by omega)) (fun y h1 h2 => by omega) h3
      rw [g1]
      simp only [Option.bind_some, selim, w64_succ (i := i) (by omega)]
      exact ih (i + 1) d2 (by omega) (by omega) ((hP.mono (Nat.le_refl _) (by omega)).trans g2) g3
  obtain ⟨r, h1, h2, h3⟩ := key (max n 1 - 1) 1 (upTo n) (by omega) (by omega) (PermR.refl _) (fun x y hx hxy hy => by omega)
  simp only [Nat.zero_add] at h1 ⊢
  rw [h1]
  refine ⟨r, rfl, h2, ?_⟩
  rw [List.pairwise_iff_getElem]
  intro i j hi hj hij
  have hl := h2.length_eq
  have := h3 i j (by omega) hij (by omega)
  rwa [el_lt hi, el_lt hj] at this
end

/-- The numbers of the nearest centres. -/
def hitsC (cs : List (List Int)) (v : List Int) : List Hit := (List.range cs.length).map fun j : Nat => ((j : Int), cD cs v j)
def probeL (cs : List (List Int)) (v : List Int) (m : Nat) : List Int := (topH m (hitsC cs v)).map (·.1)
def okP (cs : List (List Int)) (v : List Int) (m : Int) : Bool := okC cs && isVec v && decide (1 ≤ m ∧ m ≤ 4)
theorem okP_iff {cs : List (List Int)} {v : List Int} {m : Int} : okP cs v m = true ↔ okC cs = true ∧ isVec v = true ∧ 1 ≤ m ∧ m ≤ 4 := by unfold okP; simp [and_assoc]
def probeV (cs : List (List Int)) (v : List Int) (m : Int) : List Int := if okP cs v m = true then probeL cs v m.toNat else []
theorem implProbe_ok {cs : List (List Int)} {v : List Int} {m : Int} (s : SmallC cs) (hv : v.length < 2000000) : M.impl_validProbe cs v m = some (okP cs v m) := by
  unfold M.impl_validProbe okP
  simp only [implValidC_ok s, Option.bind_some, impl_valid v hv]
  cases okC cs with
  | false => rfl
  | true =>
    cases isVec v with
    | false => rfl
    | true =>
      by_cases h : 1 ≤ m
      · simp [h]
      · simp [h]
theorem hitsC_len {cs : List (List Int)} {v : List Int} : (hitsC cs v).length = cs.length := by simp [hitsC]
theorem sorted_hits {cs : List (List Int)} {v : List Int} {d : List Int} (hp : d.Perm (upTo cs.length)) (ha : d.Pairwise (fun x y => ltN (cD cs v) y x = false)) : d = (isort (hitsC cs v)).map (·.1) := by
  have e1 : d.map (fun x : Int => (x, cD cs v x.toNat)) = isort (hitsC cs v) := by
    symm
    refine isort_uniq ?_ ?_
    · unfold AscH
      rw [List.pairwise_map]
      exact ha
    · refine (hp.map _).trans ?_
      unfold upTo hitsC
      rw [List.map_map]
      exact List.Perm.of_eq (List.map_congr_left fun j _ => by simp)
  rw [← e1, List.map_map]
  have : ((fun x : Hit => x.1) ∘ fun x : Int => (x, cD cs v x.toNat)) = id := rfl
  rw [this, List.map_id]
theorem loop_up {n : Nat} (hn : n ≤ 1048576) : loopM (fun (s20 : (List Int) × (Int)) => (bif decide (s20.2 < (n : Int)) then
  (gidx s20.1 s20.2).bind fun x25 =>
  some (.inl ((s20.1.set s20.2.toNat s20.2), w64 (s20.2 + 1)))
 else
  some (.inr s20.1))) (List.replicate n 0, 0) = some (upTo n) := by
  have := map_loop (a := List.range n) (z := (0 : Int)) (g := fun i : Nat => (i : Int)) (by simpa using hn) (f := fun (s20 : (List Int) × (Int)) => (bif decide (s20.2 < (n : Int)) then
  (gidx s20.1 s20.2).bind fun x25 =>
  some (.inl ((s20.1.set s20.2.toNat s20.2), w64 (s20.2 + 1)))
 else
  some (.inr s20.1))) (by
    intro s i h h'
    have hi : i < n := by simpa using h
    have e1 : decide ((i : Int) < (n : Int)) = true := decide_eq_true (by omega)
    simp only [e1, cond_true, gidx_nat h', Option.bind_some, w64_succ (i := i) (by omega), Int.toNat_natCast, List.getElem_range]) (by
    intro s; simp)
  simpa [upTo] using this
theorem implOrder_ok {cs : List (List Int)} {v : List Int} {m : Int} (s : SmallC cs) (hv : v.length < 2000000) : M.impl_ProbeOrder cs v m = some (probeV cs v m) := by
  unfold M.impl_ProbeOrder probeV
  simp only [implProbe_ok s hv, Option.bind_some]
  cases h : okP cs v m with
  | false => simp
  | true =>
    obtain ⟨ho, hvv, m1, m4⟩ := okP_iff.1 h
    obtain ⟨⟨c1, c4⟩, hvec⟩ := okC_iff.1 ho
    simp only [Bool.not_true, cond_false, if_true]
    rw [gmake_ok (by omega) (by omega)]
    simp only [Option.bind_some, Int.toNat_natCast, List.length_replicate, loop_up (n := cs.length) (by omega)]
    have hcmp : CmpN (fun x y => M.impl_ProbeOrder_1__p_SSint__p24 x y cs v) (cD cs v) cs.length := by
      intro x y hy hyx hxn
      obtain ⟨a, rfl⟩ := Int.eq_ofNat_of_zero_le (show 0 ≤ x by omega)
      obtain ⟨b, rfl⟩ := Int.eq_ofNat_of_zero_le hy
      have ha : a < cs.length := by omega
      have hb : b < cs.length := by omega
      refine ⟨cmpI (cD cs v a) (cD cs v b), ?_, ?_⟩
      · unfold M.impl_ProbeOrder_1__p_SSint__p24
        simp only [gidx_nat ha, gidx_nat hb, Option.bind_some, implDist3 (hvec _ (List.getElem_mem ha)) hvv, implDist3 (hvec _ (List.getElem_mem hb)) hvv, compare_ok, cD_at ha, cD_at hb]
      · unfold ltN ltH
        simp only [Int.toNat_natCast]
        rw [Bool.eq_iff_iff, decide_eq_true_eq, decide_eq_true_eq, cmpI_neg]
        omega
    obtain ⟨d, e1, e2, e3⟩ := insS_ok hcmp (show cs.length < 1000000 by omega)
    have e1' : M.slices_insertionSortCmpFunc_int__impl_ProbeOrder_1 (upTo cs.length) 0 (cs.length : Int) cs v = some d := e1
    have hst : M.slices_stableCmpFunc_int__impl_ProbeOrder_1 (upTo cs.length) (cs.length : Int) cs v = some d := by
      unfold M.slices_stableCmpFunc_int__impl_ProbeOrder_1
      have f1 : decide ((20 : Int) ≤ (cs.length : Int)) = false := decide_eq_false (by omega)
      have f2 : decide ((20 : Int) < (cs.length : Int)) = false := decide_eq_false (by omega)
      rw [loopM_eq]
      simp only [f1, cond_false, Option.bind_some, selim, e1']
      rw [loopM_eq]
      simp only [f2, cond_false, Option.bind_some, selim]
    unfold M.slices_SortStableFunc_int_int__impl_ProbeOrder_1
    have hdl : d.length = cs.length := by rw [e2.length_eq, upTo_len]
    simp only [upTo_len, hst, Option.bind_some]
    obtain ⟨k, rfl⟩ := Int.eq_ofNat_of_zero_le (show 0 ≤ m by omega)
    rw [gslice_ok (by omega) (by omega) (by omega)]
    simp only [Option.bind_some, Int.toNat_zero, List.drop_zero, Int.toNat_natCast, Option.some.injEq]
    have e4 := sorted_hits e2 e3
    have e5 : (min (k : Int) (d.length : Int)).toNat = min k d.length := by omega
    unfold probeL topH
    rw [e5, e4, List.map_take]
    have : (isort (hitsC cs v)).length = cs.length := by rw [isort_len, hitsC_len]
    rw [List.length_map, this]
    rcases Nat.le_total k cs.length with hk | hk
    · rw [Nat.min_eq_left hk]
    · rw [Nat.min_eq_right hk, List.take_of_length_le (by simp [this]), List.take_of_length_le (by simp [this]; omega)]
theorem hitsC_snoc {cs : List (List Int)} {v : List Int} {i : Nat} : (List.range (i + 1)).map (fun j : Nat => ((j : Int), cD cs v j)) = (List.range i).map (fun j : Nat => ((j : Int), cD cs v j)) ++ [((i : Int), cD cs v i)] := by
  rw [List.range_succ, List.map_append]; rfl
theorem specp_ok {cs : List (List Int)} {v : List Int} {k : Nat} (ho : okC cs = true) (hvv : isVec v = true) (hk : k ≤ 1000) : M.spec_probes cs v (k : Int) = some (probeL cs v k) := by
  obtain ⟨⟨c1, c4⟩, hvec⟩ := okC_iff.1 ho
  unfold M.spec_probes
  have hloop := loop_run (R := List Hit) (f := fun (s4 : (List (Int × Int)) × (Int)) => (bif decide (s4.2 < (cs.length : Int)) then
  (gidx cs s4.2).bind fun x9 =>
  (M.spec_dist 3 x9 v).bind fun r19 =>
  (M.spec_addHit s4.1 (s4.2, r19) (k : Int)).bind fun r25 =>
  some (.inl (r25, w64 (s4.2 + 1)))
 else
  some (.inr s4.1))) (r := topH k (hitsC cs v)) cs.length (fun i => (topH k ((List.range i).map fun j : Nat => ((j : Int), cD cs v j)), (i : Int))) (by
    intro i hi
    have e1 : decide ((i : Int) < (cs.length : Int)) = true := decide_eq_true (by omega)
    have ha := addTop_ok (k := k) hk (V := (List.range i).map fun j : Nat => ((j : Int), cD cs v j)) ((i : Int), cD cs v i)
    simp only at ha
    simp only [e1, cond_true, gidx_nat hi, Option.bind_some, specDist_vec kind3 (hvec _ (List.getElem_mem hi)) hvv, ← cD_at hi, ha, w64_succ (i := i) (by omega), hitsC_snoc]) (by
    have e1 : decide ((cs.length : Int) < (cs.length : Int)) = false := decide_eq_false (by omega)
    simp only [e1, cond_false]; rfl)
  have t0 : topH k [] = [] := List.eq_nil_of_length_eq_zero (by rw [topH_len]; simp)
  simp only [List.range_zero, List.map_nil, Int.cast_ofNat_Int, t0] at hloop
  rw [hloop]
  simp only [Option.bind_some]
  have hL := topH_len k (hitsC cs v)
  have hl2 := hitsC_len (cs := cs) (v := v)
  refine fold_bind (xs := topH k (hitsC cs v)) (fun (s : List Int) i => (s, i)) (fun s x => s ++ [x.1]) (fun i s => s.length ≤ i) (fun s => s) (s0 := []) (by simp) ?_ ?_ ?_
  · rintro s i hi hs
    have e1 : decide ((i : Int) < ((topH k (hitsC cs v)).length : Int)) = true := decide_eq_true (by omega)
    simp only [e1, cond_true, gidx_nat hi, Option.bind_some, w64_succ (i := i) (by omega)]
    rw [gapp_ok (by simp; omega)]
    exact ⟨rfl, by simp; omega⟩
  · intro s _; simp
  · intro _; rw [foldl_map]; simp [probeL]
theorem specOrder_ok {cs : List (List Int)} {v : List Int} {m : Int} (s : SmallC cs) (hv : v.length < 2000000) : M.spec_ProbeOrder cs v m = some (probeV cs v m) := by
  unfold M.spec_ProbeOrder probeV okP
  simp only [specvC_ok s, Option.bind_some, spec_isVec v hv, inRange_ok]
  cases ho : okC cs with
  | false => simp
  | true =>
    cases hvv : isVec v with
    | false => simp
    | true =>
      by_cases hm : 1 ≤ m ∧ m ≤ 4
      · obtain ⟨m1, m4⟩ := id hm
        obtain ⟨k, rfl⟩ := Int.eq_ofNat_of_zero_le (show 0 ≤ m by omega)
        have hd : decide (1 ≤ (k : Int) ∧ (k : Int) ≤ 4) = true := decide_eq_true hm
        rw [hd]
        simp only [Bool.not_true, cond_false, Option.bind_some, specp_ok ho hvv (show k ≤ 1000 by omega), Bool.and_self, if_true, Int.toNat_natCast]
      · have hd : decide (1 ≤ m ∧ m ≤ 4) = false := decide_eq_false hm
        rw [hd]; simp
theorem probeV_small {cs : List (List Int)} {v : List Int} {m : Int} : (probeV cs v m).length ≤ 4 := by
  unfold probeV
  split
  · rename_i h
    obtain ⟨ho, _, m1, m4⟩ := okP_iff.1 h
    have := topH_len m.toNat (hitsC cs v)
    unfold probeL
    rw [List.length_map]; omega
  · simp
end Go.Vs

namespace Go.Vs

abbrev OkCs (cs : List (List Int)) : Prop := cs.length ≤ 9223372036854775807 ∧ ∀ x ∈ cs, (x.length ≤ 9223372036854775807 ∧ ∀ y ∈ x, True)
theorem smallC_of {cs : List (List Int)} (h1 : cs.length ≤ 1048576) (h2 : ∀ x ∈ cs, x.length ≤ 1048576) : SmallC cs := ⟨by omega, fun c hc => by have := h2 c hc; omega⟩
/-- The sizes of centres. -/
theorem szC_ok {cs : List (List Int)} {left : Int} (ha : OkCs cs) (h0 : 0 ≤ left) (h1 : left ≤ 1048576) : ∃ s, M.laws_szIntSS cs left = some s ∧ (s < 0 ∨ (0 ≤ s ∧ s ≤ left ∧ cs.length ≤ 1048576 ∧ ∀ x ∈ cs, x.length ≤ 1048576)) := by
  unfold M.laws_szIntSS
  rw [w64_id (by have := ha.1; omega) (by omega)]
  by_cases h : left - (cs.length : Int) < 0
  · exact ⟨-1, by simp [h], .inl (by omega)⟩
  simp only [h, decide_false, cond_false]
  have hl : cs.length ≤ 1048576 := by omega
  have key : ∀ m k : Nat, ∀ l : Int, k + m = cs.length → 0 ≤ l → l ≤ left → ∃ r : Int ⊕ Int, loopM (fun (s3 : (Int) × (Int)) => (bif decide (s3.2 < (cs.length : Int)) then
  (gidx cs s3.2).bind fun x8 =>
  (M.laws_szIntS x8 s3.1).bind fun r19 =>
  (bif decide (r19 < 0) then
  some (.inr (.inr (-1)))
 else
  some (.inl (r19, w64 (s3.2 + 1))))
 else
  some (.inr (.inl s3.1)))) (l, (k : Int)) = some r ∧ (r = .inr (-1) ∨ ∃ l', r = .inl l' ∧ 0 ≤ l' ∧ l' ≤ left ∧ ∀ x ∈ cs.drop k, x.length ≤ 1048576) := by
    intro m
    induction m with
    | zero =>
      intro k l hk hl0 hl1
      have : k = cs.length := by omega
      subst this
      refine ⟨.inl l, ?_, .inr ⟨l, rfl, hl0, hl1, by simp⟩⟩
      rw [loopM_eq]; simp [selim]
    | succ m ih =>
      intro k l hk hl0 hl1
      have hlt : k < cs.length := by omega
      have e1 : decide ((k : Int) < (cs.length : Int)) = true := by simpa using hlt
      have e2 : w64 ((k : Int) + 1) = ((k + 1 : Nat) : Int) := w64_id (by omega) (by omega)
      obtain ⟨s, es, hs⟩ := szIntS_ok (a := cs[k]) (left := l) (ha.2 _ (List.getElem_mem hlt)).1 hl0 (by omega)
      rw [loopM_eq]
      simp only [e1, cond_true, gidx_nat hlt, Option.bind_some, es, e2]
      rcases hs with hs | ⟨hs0, hs1, hs2⟩
      · exact ⟨.inr (-1), by simp [hs, selim], .inl rfl⟩
      · obtain ⟨r, hr, hr'⟩ := ih (k + 1) s (by omega) hs0 (by omega)
        refine ⟨r, ?_, ?_⟩
        · have : ¬ s < 0 := by omega
          simp only [this, decide_false, cond_false, selim, Option.bind_some]
          exact hr
        · rcases hr' with hr' | ⟨l', e, h0', h1', hall⟩
          · exact .inl hr'
          · refine .inr ⟨l', e, h0', h1', ?_⟩
            rw [List.drop_eq_getElem_cons hlt]
            intro x hx'
            rcases List.mem_cons.1 hx' with h | h
            · subst h; exact hs2
            · exact hall x h
  obtain ⟨r, hr, hr'⟩ := key cs.length 0 (left - cs.length) (by omega) (by omega) (by omega)
  simp only [Int.cast_ofNat_Int] at hr
  rw [hr]
  rcases hr' with rfl | ⟨l', rfl, h0', h1', hall⟩
  · exact ⟨-1, rfl, .inl (by omega)⟩
  · exact ⟨l', rfl, .inr ⟨h0', h1', hl, by simpa using hall⟩⟩
theorem law_ExactProbeOrder (cs : List (List Int)) (v : List Int) (m : Int) (ha : OkCs cs) : M.laws_FnExactProbeOrder cs v m = some true := by
  unfold M.laws_FnExactProbeOrder
  by_cases hc : 1048576 < (v.length : Int)
  · simp [hc]
  have la : v.length ≤ 1048576 := by omega
  have la' : v.length < 2000000 := by omega
  obtain ⟨s, es, hs⟩ := szC_ok (left := 1048576) ha (by omega) (by omega)
  simp only [hc, decide_false, cond_false, es, Option.bind_some]
  rcases hs with hs | ⟨h0, _, h1, h2⟩
  · simp [hs]
  have hn : ¬ s < 0 := by omega
  have sc := smallC_of h1 h2
  have lm : (probeV cs v m).length < 2000000 := by have := probeV_small (cs := cs) (v := v) (m := m); omega
  obtain ⟨k, hk, k1, k2⟩ := markIntSD_ok h1 h2
  have hn1 : ¬ (k + (v.length : Int)) < 0 := by omega
  have hn2 : ¬ (1 + ((probeV cs v m).length : Int)) < 0 := by omega
  simp only [hn, decide_false, cond_false, dIntSS_ok h1 h2, toIntS_ok la, Option.bind_some, specOrder_ok sc la', implOrder_ok sc la', eqIntS_ok lm, eqIntS_ok la', decide_true, Bool.not_true, eqIntSS_self sc.1 sc.2, hk, markIntS_ok (k := k) la' (by omega) (by omega), hn1, markIntS_ok lm one0 one1, heldIntS_ok lm one0 one1, hn2, bne_self_eq_false]
end Go.Vs
