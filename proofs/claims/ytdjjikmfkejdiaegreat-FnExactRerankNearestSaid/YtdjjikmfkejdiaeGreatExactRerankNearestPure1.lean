/- Plain facts of what the functions compute. -/
import Derived.Test.YtdjjikmfkejdiaeGreatExactRerankNearestEng1
import Derived.Test.YtdjjikmfkejdiaeGreatExactRerankNearestLib1
set_option linter.unusedVariables false
set_option linter.unusedSimpArgs false
namespace Go.Vs

theorem loop_run {S R : Type} {f : S → Option (S ⊕ R)} {r : R} (k : Nat) (st : Nat → S) (hs : ∀ i, i < k → f (st i) = some (.inl (st (i + 1)))) (he : f (st k) = some (.inr r)) : loopM f (st 0) = some r := by
  induction k generalizing st with
  | zero => rw [loopM_eq, he]; rfl
  | succ k ih =>
    rw [loopM_eq, hs 0 (by omega)]
    exact ih (fun i => st (i + 1)) (fun i hi => hs (i + 1) (by omega)) he

theorem gidx_nat {α : Type} {xs : List α} {i : Nat} (h : i < xs.length) : gidx xs (i : Int) = some xs[i] := by
  unfold gidx
  rw [if_pos (by omega)]
  simp [h]
theorem gapp_ok {α : Type} {xs ys : List α} (h : xs.length + ys.length ≤ 2147483648) : gapp xs ys = some (xs ++ ys) := by unfold gapp; rw [if_pos h]
theorem gslice_ok {α : Type} {xs : List α} {l h : Int} (h0 : 0 ≤ l) (h1 : l ≤ h) (h2 : h ≤ xs.length) : gslice xs l h = some ((xs.take h.toNat).drop l.toNat) := by
  unfold gslice; rw [if_pos ⟨h0, h1, h2⟩]
theorem gmake_ok {α : Type} {k : Int} {z : α} (h0 : 0 ≤ k) (h1 : k ≤ 2147483648) : gmake k z = some (List.replicate k.toNat z) := by unfold gmake; rw [if_pos ⟨h0, h1⟩]
theorem garr_ok {α : Type} {k : Nat} {xs : List α} (h : k ≤ xs.length) : garr k xs = some (xs.take k) := by unfold garr; rw [if_pos h]

theorem loop_all {α R : Type} {xs : List α} {P : α → Bool} {r : R} {f : Int → Option (Int ⊕ (Unit ⊕ R))} (hs : ∀ i (h : i < xs.length), f (i : Int) = some (if P xs[i] then .inl ((i : Int) + 1) else .inr (.inr r))) (he : f (xs.length : Int) = some (.inr (.inl ()))) :
    loopM f 0 = some (if xs.all P then .inl () else .inr r) := by
  have key : ∀ m k : Nat, k + m = xs.length → loopM f (k : Int) = some (if (xs.drop k).all P then .inl () else .inr r) := by
    intro m
    induction m with
    | zero =>
      intro k hk
      have : k = xs.length := by omega
      subst this
      rw [loopM_eq, he]; simp [selim]
    | succ m ih =>
      intro k hk
      have hlt : k < xs.length := by omega
      rw [loopM_eq, hs k hlt, List.drop_eq_getElem_cons hlt]
      by_cases hp : P xs[k] = true
      · rw [if_pos hp]
        have := ih (k + 1) (by omega)
        simp only [Int.natCast_add, Int.cast_ofNat_Int] at this
        simp only [List.all_cons, hp, Bool.true_and, selim, this, Option.bind_some]
      · rw [if_neg hp]
        simp only [List.all_cons, Bool.not_eq_true] at hp ⊢
        simp only [hp, Bool.false_and, selim, Option.bind_some]; rfl
  have := key xs.length 0 (by omega)
  simpa using this
end Go.Vs

namespace Go.Vs

def Good (k : Nat) (r : List UInt8 × Int) : Prop := r.1.length ≤ 2000 ∧ 0 ≤ r.2 ∧ r.2 ≤ k
theorem Good.mono {k m : Nat} {r : List UInt8 × Int} (h : Good k r) (hm : k ≤ m) : Good m r := ⟨h.1, h.2.1, by have := h.2.2; omega⟩

def isVec (v : List Int) : Bool := decide (v.length = 4) && v.all fun x => decide (-100 ≤ x) && decide (x ≤ 100)
theorem isVec_iff {v : List Int} : isVec v = true ↔ v.length = 4 ∧ ∀ x ∈ v, -100 ≤ x ∧ x ≤ 100 := by
  unfold isVec; simp
theorem isVec_four {v : List Int} (h : isVec v = true) : ∃ a b c d, v = [a, b, c, d] ∧ (-100 ≤ a ∧ a ≤ 100) ∧ (-100 ≤ b ∧ b ≤ 100) ∧ (-100 ≤ c ∧ c ≤ 100) ∧ (-100 ≤ d ∧ d ≤ 100) := by
  obtain ⟨h1, h2⟩ := isVec_iff.1 h
  match v, h1 with
  | [a, b, c, d], _ => exact ⟨a, b, c, d, rfl, h2 a (by simp), h2 b (by simp), h2 c (by simp), h2 d (by simp)⟩

end Go.Vs
namespace Go.Vs
def Near (v : List Int) : Prop := v.length ≤ 5 ∧ ∀ x ∈ v, -101 ≤ x ∧ x ≤ 101
theorem implCoords_ok (v : List Int) (hb : v.length < 2000000) : M.impl_validCoords v = some (v.all fun x => decide (-100 ≤ x) && decide (x ≤ 100)) := by
  unfold M.impl_validCoords
  rw [loop_all (xs := v) (P := fun x => decide (-100 ≤ x) && decide (x ≤ 100)) (r := false)]
  · by_cases ha : (v.all fun x => decide (-100 ≤ x) && decide (x ≤ 100)) = true
    · simp only [ha, if_true, Option.bind_some, selim]
    · simp only [Bool.not_eq_true] at ha
      simp only [ha]; simp [selim]
  · intro i h
    have e1 : decide ((i : Int) < (v.length : Int)) = true := by simpa using h
    have e2 : w64 ((i : Int) + 1) = (i : Int) + 1 := w64_id (by omega) (by omega)
    simp only [e1, cond_true, gidx_nat h, Option.bind_some, e2]
    by_cases c1 : v[i] < -100
    · have c2 : ¬ (-100 ≤ v[i]) := by omega
      simp [c1, c2]
    · by_cases c3 : 100 < v[i]
      · have c4 : ¬ (v[i] ≤ 100) := by omega
        simp [c1, c3, c4]
      · simp [c1, c3, show -100 ≤ v[i] by omega, show v[i] ≤ 100 by omega]
  · simp
theorem impl_valid (v : List Int) (hb : v.length < 2000000) : M.impl_ValidVector v = some (isVec v) := by
  unfold M.impl_ValidVector
  simp only [implCoords_ok v hb, Option.bind_some]
  unfold isVec
  by_cases hl : v.length = 4
  · have e : ((v.length : Int) == 4) = true := by simp; omega
    rw [e, cond_true, decide_eq_true hl, Bool.true_and]
  · have e : ((v.length : Int) == 4) = false := by simp; omega
    rw [e, cond_false, decide_eq_false hl, Bool.false_and]
theorem spec_inR (n l h : Int) : M.spec_inRange n l h = some (decide (l ≤ n) && decide (n ≤ h)) := by
  unfold M.spec_inRange
  by_cases h1 : l ≤ n <;> simp [h1]
theorem spec_all (v : List Int) (l h : Int) (hb : v.length < 2000000) : M.spec_allIn v l h = some (v.all fun x => decide (l ≤ x) && decide (x ≤ h)) := by
  unfold M.spec_allIn
  rw [loop_all (xs := v) (P := fun x => decide (l ≤ x) && decide (x ≤ h)) (r := false)]
  · by_cases ha : (v.all fun x => decide (l ≤ x) && decide (x ≤ h)) = true
    · simp only [ha, if_true, Option.bind_some, selim]
    · simp only [Bool.not_eq_true] at ha
      simp [ha, selim]
  · intro i hi
    have e1 : decide ((i : Int) < (v.length : Int)) = true := by simpa using hi
    have e2 : w64 ((i : Int) + 1) = (i : Int) + 1 := w64_id (by omega) (by omega)
    simp only [e1, cond_true, gidx_nat hi, Option.bind_some, e2, spec_inR]
    cases (decide (l ≤ v[i]) && decide (v[i] ≤ h)) <;> rfl
  · simp
theorem spec_isVec (v : List Int) (hb : v.length < 2000000) : M.spec_isVector v = some (isVec v) := by
  unfold M.spec_isVector
  by_cases hl : v.length = 4
  · have e : ((v.length : Int) == 4) = true := by simp; omega
    simp [e, spec_all v _ _ hb, isVec, hl]
  · have e : ((v.length : Int) == 4) = false := by simp; omega
    simp [e, isVec, hl]
end Go.Vs

namespace Go.Vs

end Go.Vs

namespace Go.Vs

theorem loop4 {S R : Type} {f : S → Option (S ⊕ R)} {s0 s1 s2 s3 s4 : S} {r : R} (h0 : f s0 = some (.inl s1)) (h1 : f s1 = some (.inl s2)) (h2 : f s2 = some (.inl s3)) (h3 : f s3 = some (.inl s4)) (h4 : f s4 = some (.inr r)) : loopM f s0 = some r := by
  rw [loopM_eq, h0, Option.bind_some, selim, loopM_eq, h1, Option.bind_some, selim, loopM_eq, h2, Option.bind_some, selim, loopM_eq, h3, Option.bind_some, selim, loopM_eq, h4]; rfl
theorem gi0 {α : Type} {a : α} {l : List α} : gidx (a :: l) 0 = some a := gidx_nat (i := 0) (by simp)
theorem gi1 {α : Type} {a b : α} {l : List α} : gidx (a :: b :: l) 1 = some b := gidx_nat (i := 1) (by simp)
theorem gi2 {α : Type} {a b c : α} {l : List α} : gidx (a :: b :: c :: l) 2 = some c := gidx_nat (i := 2) (by simp)
theorem gi3 {α : Type} {a b c d : α} {l : List α} : gidx (a :: b :: c :: d :: l) 3 = some d := gidx_nat (i := 3) (by simp)
theorem i01 : w64 ((0 : Int) + 1) = 1 := w64_id (by omega) (by omega)
theorem i12 : w64 ((1 : Int) + 1) = 2 := w64_id (by omega) (by omega)
theorem i23 : w64 ((2 : Int) + 1) = 3 := w64_id (by omega) (by omega)
theorem i34 : w64 ((3 : Int) + 1) = 4 := w64_id (by omega) (by omega)
theorem d04 : decide ((0 : Int) < 4) = true := rfl
theorem d14 : decide ((1 : Int) < 4) = true := rfl
theorem d24 : decide ((2 : Int) < 4) = true := rfl
theorem d34 : decide ((3 : Int) < 4) = true := rfl
theorem d44 : decide ((4 : Int) < 4) = false := rfl
theorem l4 {α : Type} {a b c d : α} : (([a, b, c, d] : List α).length : Int) = 4 := rfl

def gap (x y : Int) : Int := max (x - y) (y - x)
theorem gap_nonneg (x y : Int) : 0 ≤ gap x y := by unfold gap; omega
def Co (x : Int) : Prop := -100 ≤ x ∧ x ≤ 100
theorem gap_le {x y : Int} (hx : Co x) (hy : Co y) : gap x y ≤ 200 := by unfold gap; unfold Co at hx hy; omega
theorem sq_bounds {g : Int} (h0 : 0 ≤ g) (h : g ≤ 200) : 0 ≤ g * g ∧ g ≤ g * g ∧ g * g ≤ 40000 := by
  refine ⟨Int.mul_nonneg h0 h0, ?_, ?_⟩
  · by_cases h1 : g = 0
    · subst h1; simp
    · have := Int.mul_le_mul_of_nonneg_right (show (1 : Int) ≤ g by omega) h0; omega
  · have := Int.mul_le_mul h h h0 (by omega); omega
def dk (k g0 g1 g2 g3 : Int) : Int :=
  if k = 1 then g0 + g1 + g2 + g3 else if k = 2 then max (max (max (max 0 g0) g1) g2) g3 else if k = 3 then g0 * g0 + g1 * g1 + g2 * g2 + g3 * g3 else if k = 4 then min g0 1 + min g1 1 + min g2 1 + min g3 1 else -1

theorem distanceOf_ok (k : Int) {g0 g1 g2 g3 : Int} (h0 : 0 ≤ g0) (h0' : g0 ≤ 200) (h1 : 0 ≤ g1) (h1' : g1 ≤ 200) (h2 : 0 ≤ g2) (h2' : g2 ≤ 200) (h3 : 0 ≤ g3) (h3' : g3 ≤ 200) :
    M.impl_distanceOf k [g0, g1, g2, g3] = some (dk k g0 g1 g2 g3) := by
  unfold M.impl_distanceOf
  have s0 := sq_bounds h0 h0'
  have s1 := sq_bounds h1 h1'
  have s2 := sq_bounds h2 h2'
  have s3 := sq_bounds h3 h3'
  by_cases k1 : k = 1
  · subst k1
    have e0 : w64 (0 + g0) = g0 := by rw [w64_id (by omega) (by omega)]; omega
    have e1 : w64 (g0 + g1) = g0 + g1 := w64_id (by omega) (by omega)
    have e2 : w64 (g0 + g1 + g2) = g0 + g1 + g2 := w64_id (by omega) (by omega)
    have e3 : w64 (g0 + g1 + g2 + g3) = g0 + g1 + g2 + g3 := w64_id (by omega) (by omega)
    rw [loop4 (s1 := (g0, 1)) (s2 := (g0 + g1, 2)) (s3 := (g0 + g1 + g2, 3)) (s4 := (g0 + g1 + g2 + g3, 4)) (r := .inl (g0 + g1 + g2 + g3))]
    · rfl
    · simp only [d04, gi0, i01, e0, selim, cond_true, Option.bind_some]; rfl
    · simp only [d14, gi1, i12, e1, selim, cond_true, Option.bind_some]; rfl
    · simp only [d24, gi2, i23, e2, selim, cond_true, Option.bind_some]; rfl
    · simp only [d34, gi3, i34, e3, selim, cond_true, Option.bind_some]; rfl
    · simp [d44]
  by_cases k2 : k = 2
  · subst k2
    rw [loop4 (s1 := (max 0 g0, 1)) (s2 := (max (max 0 g0) g1, 2)) (s3 := (max (max (max 0 g0) g1) g2, 3)) (s4 := (max (max (max (max 0 g0) g1) g2) g3, 4)) (r := .inl (max (max (max (max 0 g0) g1) g2) g3))]
    · rfl
    · simp only [d04, gi0, i01, selim, cond_true, Option.bind_some]; rfl
    · simp only [d14, gi1, i12, selim, cond_true, Option.bind_some]; rfl
    · simp only [d24, gi2, i23, selim, cond_true, Option.bind_some]; rfl
    · simp only [d34, gi3, i34, selim, cond_true, Option.bind_some]; rfl
    · simp [d44]
  by_cases k3 : k = 3
  · subst k3
    have q0 : w64 (g0 * g0) = g0 * g0 := w64_id (by omega) (by omega)
    have q1 : w64 (g1 * g1) = g1 * g1 := w64_id (by omega) (by omega)
    have q2 : w64 (g2 * g2) = g2 * g2 := w64_id (by omega) (by omega)
    have q3 : w64 (g3 * g3) = g3 * g3 := w64_id (by omega) (by omega)
    have e0 : w64 (0 + g0 * g0) = g0 * g0 := by rw [w64_id (by omega) (by omega)]; omega
    have e1 : w64 (g0 * g0 + g1 * g1) = g0 * g0 + g1 * g1 := w64_id (by omega) (by omega)
    have e2 : w64 (g0 * g0 + g1 * g1 + g2 * g2) = g0 * g0 + g1 * g1 + g2 * g2 := w64_id (by omega) (by omega)
    have e3 : w64 (g0 * g0 + g1 * g1 + g2 * g2 + g3 * g3) = g0 * g0 + g1 * g1 + g2 * g2 + g3 * g3 := w64_id (by omega) (by omega)
    rw [loop4 (s1 := (g0 * g0, 1)) (s2 := (g0 * g0 + g1 * g1, 2)) (s3 := (g0 * g0 + g1 * g1 + g2 * g2, 3)) (s4 := (g0 * g0 + g1 * g1 + g2 * g2 + g3 * g3, 4)) (r := .inl (g0 * g0 + g1 * g1 + g2 * g2 + g3 * g3))]
    · rfl
    · simp only [d04, gi0, i01, e0, q0, selim, cond_true, Option.bind_some]; rfl
    · simp only [d14, gi1, i12, e1, q1, selim, cond_true, Option.bind_some]; rfl
    · simp only [d24, gi2, i23, e2, q2, selim, cond_true, Option.bind_some]; rfl
    · simp only [d34, gi3, i34, e3, q3, selim, cond_true, Option.bind_some]; rfl
    · simp [d44]
  by_cases k4 : k = 4
  · subst k4
    have e0 : w64 (0 + min g0 1) = min g0 1 := by rw [w64_id (by omega) (by omega)]; omega
    have e1 : w64 (min g0 1 + min g1 1) = min g0 1 + min g1 1 := w64_id (by omega) (by omega)
    have e2 : w64 (min g0 1 + min g1 1 + min g2 1) = min g0 1 + min g1 1 + min g2 1 := w64_id (by omega) (by omega)
    have e3 : w64 (min g0 1 + min g1 1 + min g2 1 + min g3 1) = min g0 1 + min g1 1 + min g2 1 + min g3 1 := w64_id (by omega) (by omega)
    rw [loop4 (s1 := (min g0 1, 1)) (s2 := (min g0 1 + min g1 1, 2)) (s3 := (min g0 1 + min g1 1 + min g2 1, 3)) (s4 := (min g0 1 + min g1 1 + min g2 1 + min g3 1, 4)) (r := .inl (min g0 1 + min g1 1 + min g2 1 + min g3 1))]
    · rfl
    · simp only [d04, gi0, i01, e0, selim, cond_true, Option.bind_some]; rfl
    · simp only [d14, gi1, i12, e1, selim, cond_true, Option.bind_some]; rfl
    · simp only [d24, gi2, i23, e2, selim, cond_true, Option.bind_some]; rfl
    · simp only [d34, gi3, i34, e3, selim, cond_true, Option.bind_some]; rfl
    · simp [d44]
  have b1 : (k == 1) = false := by simpa using k1
  have b2 : (k == 2) = false := by simpa using k2
  have b3 : (k == 3) = false := by simpa using k3
  have b4 : (k == 4) = false := by simpa using k4
  rw [loopM_eq]
  simp [d04, gi0, b1, b2, b3, b4, selim, dk, k1, k2, k3, k4]

theorem gapsOf_ok {a b c d x y z w : Int} (ha : Co a) (hb : Co b) (hc : Co c) (hd : Co d) (hx : Co x) (hy : Co y) (hz : Co z) (hw : Co w) :
    M.impl_gapsOf [a, b, c, d] [x, y, z, w] = some [gap a x, gap b y, gap c z, gap d w] := by
  have e : ∀ p q, Co p → Co q → max (w64 (p - q)) (w64 (q - p)) = gap p q := by
    intro p q hp hq
    unfold Co at hp hq
    rw [w64_id (n := p - q) (by omega) (by omega), w64_id (n := q - p) (by omega) (by omega)]; rfl
  unfold M.impl_gapsOf
  rw [loop4 (s1 := ([gap a x, 0, 0, 0], 1)) (s2 := ([gap a x, gap b y, 0, 0], 2)) (s3 := ([gap a x, gap b y, gap c z, 0], 3)) (s4 := ([gap a x, gap b y, gap c z, gap d w], 4)) (r := [gap a x, gap b y, gap c z, gap d w])]
  · rfl
  · simp only [show List.replicate 4 (0 : Int) = [0, 0, 0, 0] from rfl, d04, gi0, i01, cond_true, Option.bind_some, e a x ha hx]; rfl
  · simp only [d14, gi1, i12, cond_true, Option.bind_some, e b y hb hy]; rfl
  · simp only [d24, gi2, i23, cond_true, Option.bind_some, e c z hc hz]; rfl
  · simp only [d34, gi3, i34, cond_true, Option.bind_some, e d w hd hw]; rfl
  · simp only [d44, cond_false]

theorem specDist_ok {k : Int} (hk : 1 ≤ k ∧ k ≤ 4) {a b c d x y z w : Int} (ha : Co a) (hb : Co b) (hc : Co c) (hd : Co d) (hx : Co x) (hy : Co y) (hz : Co z) (hw : Co w) :
    M.spec_dist k [a, b, c, d] [x, y, z, w] = some (dk k (gap a x) (gap b y) (gap c z) (gap d w)) := by
  have e : ∀ p q, Co p → Co q → M.spec_size (w64 (p - q)) = some (gap p q) := by
    intro p q hp hq
    unfold Co at hp hq
    unfold M.spec_size
    rw [w64_id (n := p - q) (by omega) (by omega), w64_id (n := 0 - (p - q)) (by omega) (by omega)]
    unfold gap
    congr 1; omega
  have t : ∀ g : Int, 0 ≤ g → M.spec_toInt (decide (0 < g)) = some (min g 1) := by
    intro g hg
    unfold M.spec_toInt
    by_cases h : 0 < g
    · simp [h]; omega
    · simp [h]; omega
  have ea := e a x ha hx
  have eb := e b y hb hy
  have ec := e c z hc hz
  have ed := e d w hd hw
  have h0 := gap_nonneg a x
  have h1 := gap_nonneg b y
  have h2 := gap_nonneg c z
  have h3 := gap_nonneg d w
  have h0' := gap_le ha hx
  have h1' := gap_le hb hy
  have h2' := gap_le hc hz
  have h3' := gap_le hd hw
  generalize gap a x = g0 at *
  generalize gap b y = g1 at *
  generalize gap c z = g2 at *
  generalize gap d w = g3 at *
  have s0 := sq_bounds h0 h0'
  have s1 := sq_bounds h1 h1'
  have s2 := sq_bounds h2 h2'
  have s3 := sq_bounds h3 h3'
  unfold M.spec_dist
  by_cases k1 : k = 1
  · subst k1
    have e0 : w64 (0 + g0) = g0 := by rw [w64_id (by omega) (by omega)]; omega
    have e1 : w64 (g0 + g1) = g0 + g1 := w64_id (by omega) (by omega)
    have e2 : w64 (g0 + g1 + g2) = g0 + g1 + g2 := w64_id (by omega) (by omega)
    have e3 : w64 (g0 + g1 + g2 + g3) = g0 + g1 + g2 + g3 := w64_id (by omega) (by omega)
    rw [loop4 (s1 := (g0, 1)) (s2 := (g0 + g1, 2)) (s3 := (g0 + g1 + g2, 3)) (s4 := (g0 + g1 + g2 + g3, 4)) (r := g0 + g1 + g2 + g3)]
    · rfl
    · simp only [l4, d04, gi0, i01, e0, ea, cond_true, Option.bind_some]; rfl
    · simp only [l4, d14, gi1, i12, e1, eb, cond_true, Option.bind_some]; rfl
    · simp only [l4, d24, gi2, i23, e2, ec, cond_true, Option.bind_some]; rfl
    · simp only [l4, d34, gi3, i34, e3, ed, cond_true, Option.bind_some]; rfl
    · simp [l4, d44]
  by_cases k2 : k = 2
  · subst k2
    rw [loop4 (s1 := (max 0 g0, 1)) (s2 := (max (max 0 g0) g1, 2)) (s3 := (max (max (max 0 g0) g1) g2, 3)) (s4 := (max (max (max (max 0 g0) g1) g2) g3, 4)) (r := max (max (max (max 0 g0) g1) g2) g3)]
    · rfl
    · simp only [l4, d04, gi0, i01, ea, cond_true, Option.bind_some]; rfl
    · simp only [l4, d14, gi1, i12, eb, cond_true, Option.bind_some]; rfl
    · simp only [l4, d24, gi2, i23, ec, cond_true, Option.bind_some]; rfl
    · simp only [l4, d34, gi3, i34, ed, cond_true, Option.bind_some]; rfl
    · simp [l4, d44]
  by_cases k3 : k = 3
  · subst k3
    have q0 : w64 (g0 * g0) = g0 * g0 := w64_id (by omega) (by omega)
    have q1 : w64 (g1 * g1) = g1 * g1 := w64_id (by omega) (by omega)
    have q2 : w64 (g2 * g2) = g2 * g2 := w64_id (by omega) (by omega)
    have q3 : w64 (g3 * g3) = g3 * g3 := w64_id (by omega) (by omega)
    have e0 : w64 (0 + g0 * g0) = g0 * g0 := by rw [w64_id (by omega) (by omega)]; omega
    have e1 : w64 (g0 * g0 + g1 * g1) = g0 * g0 + g1 * g1 := w64_id (by omega) (by omega)
    have e2 : w64 (g0 * g0 + g1 * g1 + g2 * g2) = g0 * g0 + g1 * g1 + g2 * g2 := w64_id (by omega) (by omega)
    have e3 : w64 (g0 * g0 + g1 * g1 + g2 * g2 + g3 * g3) = g0 * g0 + g1 * g1 + g2 * g2 + g3 * g3 := w64_id (by omega) (by omega)
    rw [loop4 (s1 := (g0 * g0, 1)) (s2 := (g0 * g0 + g1 * g1, 2)) (s3 := (g0 * g0 + g1 * g1 + g2 * g2, 3)) (s4 := (g0 * g0 + g1 * g1 + g2 * g2 + g3 * g3, 4)) (r := g0 * g0 + g1 * g1 + g2 * g2 + g3 * g3)]
    · rfl
    · simp only [l4, d04, gi0, i01, e0, q0, ea, cond_true, Option.bind_some]; rfl
    · simp only [l4, d14, gi1, i12, e1, q1, eb, cond_true, Option.bind_some]; rfl
    · simp only [l4, d24, gi2, i23, e2, q2, ec, cond_true, Option.bind_some]; rfl
    · simp only [l4, d34, gi3, i34, e3, q3, ed, cond_true, Option.bind_some]; rfl
    · simp [l4, d44]
  · have k4 : k = 4 := by omega
    subst k4
    have e0 : w64 (0 + min g0 1) = min g0 1 := by rw [w64_id (by omega) (by omega)]; omega
    have e1 : w64 (min g0 1 + min g1 1) = min g0 1 + min g1 1 := w64_id (by omega) (by omega)
    have e2 : w64 (min g0 1 + min g1 1 + min g2 1) = min g0 1 + min g1 1 + min g2 1 := w64_id (by omega) (by omega)
    have e3 : w64 (min g0 1 + min g1 1 + min g2 1 + min g3 1) = min g0 1 + min g1 1 + min g2 1 + min g3 1 := w64_id (by omega) (by omega)
    rw [loop4 (s1 := (min g0 1, 1)) (s2 := (min g0 1 + min g1 1, 2)) (s3 := (min g0 1 + min g1 1 + min g2 1, 3)) (s4 := (min g0 1 + min g1 1 + min g2 1 + min g3 1, 4)) (r := min g0 1 + min g1 1 + min g2 1 + min g3 1)]
    · rfl
    · simp only [l4, d04, gi0, i01, e0, ea, t g0 h0, cond_true, Option.bind_some]; simp only [show ((4 : Int) == 1) = false from rfl, show ((4 : Int) == 2) = false from rfl, show ((4 : Int) == 3) = false from rfl, cond_false, Option.bind_some, t g0 h0, e0]
    · simp only [l4, d14, gi1, i12, e1, eb, t g1 h1, cond_true, Option.bind_some]; simp only [show ((4 : Int) == 1) = false from rfl, show ((4 : Int) == 2) = false from rfl, show ((4 : Int) == 3) = false from rfl, cond_false, Option.bind_some, t g1 h1, e1]
    · simp only [l4, d24, gi2, i23, e2, ec, t g2 h2, cond_true, Option.bind_some]; simp only [show ((4 : Int) == 1) = false from rfl, show ((4 : Int) == 2) = false from rfl, show ((4 : Int) == 3) = false from rfl, cond_false, Option.bind_some, t g2 h2, e2]
    · simp only [l4, d34, gi3, i34, e3, ed, t g3 h3, cond_true, Option.bind_some]; simp only [show ((4 : Int) == 1) = false from rfl, show ((4 : Int) == 2) = false from rfl, show ((4 : Int) == 3) = false from rfl, cond_false, Option.bind_some, t g3 h3, e3]
    · simp [l4, d44]
end Go.Vs

namespace Go.Vs

def dist (k : Int) (a b : List Int) : Int :=
  if isVec a = true ∧ isVec b = true then dk k (gap (a.getD 0 0) (b.getD 0 0)) (gap (a.getD 1 0) (b.getD 1 0)) (gap (a.getD 2 0) (b.getD 2 0)) (gap (a.getD 3 0) (b.getD 3 0)) else -1
theorem dist_vec {k : Int} {a b c d x y z w : Int} (ha : isVec [a, b, c, d] = true) (hb : isVec [x, y, z, w] = true) : dist k [a, b, c, d] [x, y, z, w] = dk k (gap a x) (gap b y) (gap c z) (gap d w) := by
  unfold dist; rw [if_pos ⟨ha, hb⟩]; rfl
theorem isVec_cut {v : List Int} (h : isVec v = true) : ∃ a b c d, v = [a, b, c, d] ∧ Co a ∧ Co b ∧ Co c ∧ Co d := isVec_four h

theorem implDistance_ok (k : Int) {a b : List Int} (ha : a.length < 2000000) (hb : b.length < 2000000) : M.impl_Distance k a b = some (dist k a b) := by
  unfold M.impl_Distance
  simp only [impl_valid a ha, Option.bind_some]
  by_cases va : isVec a = true
  · simp only [va, Bool.not_true, cond_false, impl_valid b hb, Option.bind_some]
    by_cases vb : isVec b = true
    · simp only [vb, Bool.not_true, cond_false]
      obtain ⟨x0, x1, x2, x3, rfl, c0, c1, c2, c3⟩ := isVec_cut va
      obtain ⟨y0, y1, y2, y3, rfl, e0, e1, e2, e3⟩ := isVec_cut vb
      rw [dist_vec va vb, garr_ok (by simp), garr_ok (by simp)]
      simp only [Option.bind_some, List.take_succ_cons, List.take_zero, gapsOf_ok c0 c1 c2 c3 e0 e1 e2 e3]
      rw [distanceOf_ok k (gap_nonneg _ _) (gap_le c0 e0) (gap_nonneg _ _) (gap_le c1 e1) (gap_nonneg _ _) (gap_le c2 e2) (gap_nonneg _ _) (gap_le c3 e3)]
      rfl
    · have vb' : isVec b = false := by simpa using vb
      simp [vb', dist]
  · have va' : isVec a = false := by simpa using va
    simp [va', dist]
theorem equalInts_ok {a b : List Int} (ha : a.length < 2000000) : M.laws_equalInts a b = some (decide (a = b)) := by
  unfold M.laws_equalInts
  by_cases hl : a.length = b.length
  · have e : ((a.length : Int) != (b.length : Int)) = false := by simp; omega
    simp only [e, cond_false]
    rw [loop_all (xs := a.zip b) (P := fun p => p.1 == p.2) (r := false)]
    · by_cases h : a = b
      · subst h
        have : (a.zip a).all (fun p => p.1 == p.2) = true := by
          rw [List.all_eq_true]; intro p hp
          obtain ⟨i, hi, rfl⟩ := List.mem_iff_getElem.1 hp
          simp
        rw [if_pos this]; simp [selim]
      · have : ¬ (a.zip b).all (fun p => p.1 == p.2) = true := by
          intro hh; apply h
          apply List.ext_getElem hl
          intro i h1 h2
          rw [List.all_eq_true] at hh
          have := hh (a[i], b[i]) (List.mem_iff_getElem.2 ⟨i, by simp; omega, by simp⟩)
          simpa using this
        rw [if_neg this]; simp [selim, h]
    · intro i hi
      have hi1 : i < a.length := by simp at hi; omega
      have hi2 : i < b.length := by simp at hi; omega
      have e1 : decide ((i : Int) < (a.length : Int)) = true := by simpa using hi1
      have e2 : w64 ((i : Int) + 1) = (i : Int) + 1 := w64_id (by omega) (by omega)
      simp only [e1, cond_true, gidx_nat hi1, gidx_nat hi2, Option.bind_some, e2, List.getElem_zip]
      by_cases hc : a[i] = b[i]
      · simp [hc]
      · have hb : (a[i] == b[i]) = false := by simpa using hc
        have hb' : (a[i] != b[i]) = true := by simpa using hc
        simp [hb, hb']
    · have : (a.zip b).length = a.length := by simp; omega
      rw [this]; simp
  · have e : ((a.length : Int) != (b.length : Int)) = true := by simp; omega
    have : a ≠ b := fun h => hl (by rw [h])
    simp [e, this]

structure Gaps (g0 g1 g2 g3 : Int) : Prop where
  n0 : 0 ≤ g0
  n1 : 0 ≤ g1
  n2 : 0 ≤ g2
  n3 : 0 ≤ g3
  m0 : g0 ≤ 200
  m1 : g1 ≤ 200
  m2 : g2 ≤ 200
  m3 : g3 ≤ 200
end Go.Vs

namespace Go.Vs

end Go.Vs

namespace Go.Vs

end Go.Vs

namespace Go.Vs

end Go.Vs

namespace Go.Vs

end Go.Vs

namespace Go.Vs

theorem toIntS_ok {a : List Int} (h : a.length ≤ 1048576) : M.laws_toIntS a = some a := by
  unfold M.laws_toIntS
  rw [gmake_ok (by omega) (by omega)]
  simp only [Option.bind_some, Int.toNat_natCast]
  have hloop := loop_run (R := List Int) (f := fun (s10 : (List Int) × (Int)) => (bif decide (s10.2 < (a.length : Int)) then
  (gidx a s10.2).bind fun x18 =>
  (gidx s10.1 s10.2).bind fun x23 =>
  some (.inl ((s10.1.set s10.2.toNat x18), w64 (s10.2 + 1)))
 else
  some (.inr s10.1))) (r := a) a.length (fun i => (a.take i ++ List.replicate (a.length - i) 0, (i : Int))) (by
    intro i hi
    have e1 : decide ((i : Int) < (a.length : Int)) = true := by simpa using hi
    have e2 : w64 ((i : Int) + 1) = ((i + 1 : Nat) : Int) := w64_id (by omega) (by omega)
    have hl : i < (a.take i ++ List.replicate (a.length - i) (0 : Int)).length := by simp; omega
    simp only [e1, cond_true, gidx_nat hi, gidx_nat hl, Option.bind_some, e2, Int.toNat_natCast, Option.some.injEq, Sum.inl.injEq, Prod.mk.injEq, and_true]
    rw [List.take_succ_eq_append_getElem hi]
    have hr : List.replicate (a.length - i) (0 : Int) = 0 :: List.replicate (a.length - (i + 1)) 0 := by
      rw [show a.length - i = (a.length - (i + 1)) + 1 by omega, List.replicate_succ]
    rw [hr, List.set_append_right _ _ (by simp; omega)]
    have : i - (a.take i).length = 0 := by simp; omega
    rw [this]; simp only [List.set_cons_zero, List.append_assoc, List.cons_append, List.nil_append]) (by
    have e1 : decide (((a.length : Nat) : Int) < (a.length : Int)) = false := by simp
    simp only [e1, cond_false, List.take_length, Nat.sub_self, List.replicate_zero, List.append_nil])
  simp only [List.take_zero, List.nil_append, Nat.sub_zero, Int.cast_ofNat_Int] at hloop
  rw [hloop]; rfl
theorem eqIntS_ok {a b : List Int} (ha : a.length < 2000000) : M.laws_eqIntS a b = some (decide (a = b)) := equalInts_ok ha

end Go.Vs

namespace Go.Vs

end Go.Vs

namespace Go.Vs

abbrev Item := Int × (List Int) × Int
def isItem (x : Item) : Bool := (decide (1 ≤ x.1) && decide (x.1 ≤ 99)) && (isVec x.2.1 && (decide (0 ≤ x.2.2) && decide (x.2.2 ≤ 15)))
def okFrom : Int → List Item → Bool
  | _, [] => true
  | p, x :: l => (isItem x && decide (p < x.1)) && okFrom x.1 l
def okStore (l : List Item) : Bool := decide (l.length ≤ 16) && okFrom 0 l

theorem implItem_ok {x : Item} (h : x.2.1.length < 2000000) : M.impl_validItem (x.1, x.2.1, x.2.2) = some (isItem x) := by
  unfold M.impl_validItem M.impl_validKey M.impl_validTags isItem
  simp only [impl_valid x.2.1 h, Option.bind_some]
  by_cases h1 : 1 ≤ x.1
  · by_cases h2 : x.1 ≤ 99
    · by_cases h3 : isVec x.2.1 = true
      · by_cases h4 : 0 ≤ x.2.2
        · simp [h1, h2, h3, h4]
        · simp [h1, h2, h3, h4]
      · simp only [Bool.not_eq_true] at h3
        simp [h1, h2, h3]
    · simp [h1, h2]
  · simp [h1]
theorem specItem_ok {x : Item} (h : x.2.1.length < 2000000) : M.spec_validItem (x.1, x.2.1, x.2.2) = some (isItem x) := by
  unfold M.spec_validItem isItem
  simp only [spec_inR, spec_isVec x.2.1 h, Option.bind_some]
  cases (decide (1 ≤ x.1) && decide (x.1 ≤ 99)) <;> cases isVec x.2.1 <;> simp

theorem implStore_ok {l : List Item} (hb : ∀ x ∈ l, x.2.1.length < 2000000) : M.impl_ValidStore l = some (okStore l) := by
  unfold M.impl_ValidStore okStore
  by_cases hl : 16 < (l.length : Int)
  · have : ¬ l.length ≤ 16 := by omega
    simp [hl, this]
  have hl' : l.length ≤ 16 := by omega
  simp only [hl, decide_false, cond_false, hl', decide_true, Bool.true_and]
  have key : ∀ m k : Nat, ∀ p : Int, k + m = l.length → loopM (fun (s3 : (Int) × (Int)) => (bif decide (s3.2 < (l.length : Int)) then
  (gidx l s3.2).bind fun x8 =>
  Option.bind ((M.impl_validItem (x8.1, x8.2.1, x8.2.2)).bind fun r30 =>
  (bif !r30 then
  some true
 else
  some (decide (x8.1 ≤ s3.1)))) fun o29 =>
  (bif o29 then
  some (.inr (.inr false))
 else
  some (.inl (x8.1, w64 (s3.2 + 1))))
 else
  some (.inr (.inl ())))) (p, (k : Int)) = some (if okFrom p (l.drop k) then (.inl () : Unit ⊕ Bool) else .inr false) := by
    intro m
    induction m with
    | zero =>
      intro k p hk
      have : k = l.length := by omega
      subst this
      rw [loopM_eq]; simp [selim, okFrom]
    | succ m ih =>
      intro k p hk
      have hlt : k < l.length := by omega
      rw [loopM_eq, List.drop_eq_getElem_cons hlt]
      have e1 : decide ((k : Int) < (l.length : Int)) = true := by simpa using hlt
      have e2 : w64 ((k : Int) + 1) = ((k + 1 : Nat) : Int) := w64_id (by omega) (by omega)
      simp only [e1, cond_true, gidx_nat hlt, Option.bind_some, implItem_ok (hb _ (List.getElem_mem hlt)), e2, okFrom]
      by_cases h1 : isItem l[k] = true
      · by_cases h2 : p < l[k].1
        · have h2' : ¬ l[k].1 ≤ p := by omega
          simp only [h1, h2, h2', Bool.not_true, cond_false, Option.bind_some, decide_false, decide_true, Bool.and_self, Bool.true_and, selim]
          exact ih (k + 1) l[k].1 (by omega)
        · have h2' : l[k].1 ≤ p := by omega
          simp [h1, h2, h2', selim]
      · simp only [Bool.not_eq_true] at h1
        simp [h1, selim]
  have := key l.length 0 0 (by omega)
  simp only [Int.cast_ofNat_Int, List.drop_zero] at this
  rw [this]
  cases okFrom 0 l <;> rfl

def keyBefore (l : List Item) : Nat → Int
  | 0 => 0
  | k + 1 => (l.getD k (0, [], 0)).1
theorem specStore_ok {l : List Item} (hb : ∀ x ∈ l, x.2.1.length < 2000000) (hL : l.length < 2000000) : M.spec_validStore l = some (okStore l) := by
  unfold M.spec_validStore okStore
  have key : ∀ m k : Nat, k + m = l.length → loopM (fun (s2 : (Int)) => (bif decide (s2 < (l.length : Int)) then
  Option.bind ((gidx l s2).bind fun x8 =>
  (M.spec_validItem (x8.1, x8.2.1, x8.2.2)).bind fun r19 =>
  (bif !r19 then
  some true
 else
  (bif decide (0 < s2) then
  (gidx l s2).bind fun x24 =>
  (gidx l (w64 (s2 - 1))).bind fun x29 =>
  some (decide (x24.1 ≤ x29.1))
 else
  some false))) fun o7 =>
  (bif o7 then
  some (.inr (.inr false))
 else
  some (.inl (w64 (s2 + 1))))
 else
  some (.inr (.inl ())))) (k : Int) = some (if okFrom (keyBefore l k) (l.drop k) then (.inl () : Unit ⊕ Bool) else .inr false) := by
    intro m
    induction m with
    | zero =>
      intro k hk
      have : k = l.length := by omega
      subst this
      rw [loopM_eq]; simp [selim, okFrom]
    | succ m ih =>
      intro k hk
      have hlt : k < l.length := by omega
      rw [loopM_eq, List.drop_eq_getElem_cons hlt]
      have e1 : decide ((k : Int) < (l.length : Int)) = true := by simpa using hlt
      have e2 : w64 ((k : Int) + 1) = ((k + 1 : Nat) : Int) := w64_id (by omega) (by omega)
      have hnext : keyBefore l (k + 1) = l[k].1 := by simp [keyBefore, List.getD, hlt]
      have ih' := ih (k + 1) (by omega)
      rw [hnext] at ih'
      simp only [e1, cond_true, gidx_nat hlt, Option.bind_some, specItem_ok (hb _ (List.getElem_mem hlt)), e2, okFrom]
      by_cases h1 : isItem l[k] = true
      · simp only [h1, Bool.not_true, cond_false, Bool.true_and]
        match k, hlt with
        | 0, hlt =>
          have hpos : keyBefore l 0 < l[0].1 := by
            have : 1 ≤ l[0].1 := by
              unfold isItem at h1; simp at h1; exact h1.1.1
            show 0 < _; omega
          have e3 : decide ((0 : Int) < ((0 : Nat) : Int)) = false := rfl
          simp only [e3, cond_false, Option.bind_some, hpos, decide_true, Bool.true_and, selim]
          exact ih'
        | j + 1, hlt =>
          have e3 : decide ((0 : Int) < ((j + 1 : Nat) : Int)) = true := by simp
          have e4 : w64 (((j + 1 : Nat) : Int) - 1) = (j : Int) := by rw [w64_id (by omega) (by omega)]; omega
          have hj : j < l.length := by omega
          have hk : keyBefore l (j + 1) = l[j].1 := by simp [keyBefore, List.getD, hj]
          simp only [e3, cond_true, e4, gidx_nat hj, Option.bind_some, hk]
          by_cases h2 : l[j].1 < l[j + 1].1
          · have h2' : ¬ l[j + 1].1 ≤ l[j].1 := by omega
            simp only [h2, h2', decide_false, decide_true, cond_false, Bool.true_and, selim, Option.bind_some]
            exact ih'
          · have h2' : l[j + 1].1 ≤ l[j].1 := by omega
            simp [h2, h2', selim]
      · simp only [Bool.not_eq_true] at h1
        simp [h1, selim]
  have := key l.length 0 (by omega)
  simp only [Int.cast_ofNat_Int, List.drop_zero] at this
  rw [this]
  show _ = some (decide (l.length ≤ 16) && okFrom 0 l)
  have e : keyBefore l 0 = 0 := rfl
  rw [e]
  by_cases h16 : l.length ≤ 16
  · have : decide ((l.length : Int) ≤ 16) = true := by simp; omega
    cases okFrom 0 l <;> simp [selim, this, h16]
  · have : decide ((l.length : Int) ≤ 16) = false := by simp; omega
    cases okFrom 0 l <;> simp [selim, this, h16]
end Go.Vs

namespace Go.Vs

theorem szIntS_ok {a : List Int} {left : Int} (ha : a.length ≤ 9223372036854775807) (h0 : 0 ≤ left) (h1 : left ≤ 1048576) :
    ∃ s, M.laws_szIntS a left = some s ∧ (s < 0 ∨ (0 ≤ s ∧ s ≤ left ∧ a.length ≤ 1048576)) := by
  unfold M.laws_szIntS
  rw [w64_id (by omega) (by omega)]
  by_cases h : left - (a.length : Int) < 0
  · exact ⟨-1, by simp [h], .inl (by omega)⟩
  · exact ⟨left - a.length, by simp [h], .inr (by omega)⟩
theorem szItem_ok {x : Item} {left : Int} (ha : x.2.1.length ≤ 9223372036854775807) (h0 : 0 ≤ left) (h1 : left ≤ 1048576) :
    ∃ s, M.laws_szItem x left = some s ∧ (s < 0 ∨ (0 ≤ s ∧ s ≤ left ∧ x.2.1.length ≤ 1048576)) := by
  obtain ⟨s, e, h⟩ := szIntS_ok ha h0 h1
  unfold M.laws_szItem
  simp only [e, Option.bind_some]
  by_cases c : s < 0
  · exact ⟨-1, by simp [c], .inl (by omega)⟩
  · exact ⟨s, by simp [c], h⟩
theorem szItemS_ok {a : List Item} {left : Int} (ha : a.length ≤ 9223372036854775807) (hx : ∀ x ∈ a, x.2.1.length ≤ 9223372036854775807) (h0 : 0 ≤ left) (h1 : left ≤ 1048576) :
    ∃ s, M.laws_szItemS a left = some s ∧ (s < 0 ∨ (0 ≤ s ∧ a.length ≤ 1048576 ∧ ∀ x ∈ a, x.2.1.length ≤ 1048576)) := by
  unfold M.laws_szItemS
  rw [w64_id (by omega) (by omega)]
  by_cases h : left - (a.length : Int) < 0
  · exact ⟨-1, by simp [h], .inl (by omega)⟩
  simp only [h, decide_false, cond_false]
  have hl : a.length ≤ 1048576 := by omega
  have key : ∀ m k : Nat, ∀ l : Int, k + m = a.length → 0 ≤ l → l ≤ 1048576 → ∃ r : Int ⊕ Int, loopM (fun (s3 : (Int) × (Int)) => (bif decide (s3.2 < (a.length : Int)) then
  (gidx a s3.2).bind fun x8 =>
  (M.laws_szItem (x8.1, x8.2.1, x8.2.2) s3.1).bind fun r19 =>
  (bif decide (r19 < 0) then
  some (.inr (.inr (-1)))
 else
  some (.inl (r19, w64 (s3.2 + 1))))
 else
  some (.inr (.inl s3.1)))) (l, (k : Int)) = some r ∧ (r = .inr (-1) ∨ ∃ l', r = .inl l' ∧ 0 ≤ l' ∧ ∀ x ∈ a.drop k, x.2.1.length ≤ 1048576) := by
    intro m
    induction m with
    | zero =>
      intro k l hk hl0 _
      have : k = a.length := by omega
      subst this
      refine ⟨.inl l, ?_, .inr ⟨l, rfl, hl0, by simp⟩⟩
      rw [loopM_eq]; simp [selim]
    | succ m ih =>
      intro k l hk hl0 hl1
      have hlt : k < a.length := by omega
      have e1 : decide ((k : Int) < (a.length : Int)) = true := by simpa using hlt
      have e2 : w64 ((k : Int) + 1) = ((k + 1 : Nat) : Int) := w64_id (by omega) (by omega)
      obtain ⟨s, es, hs⟩ := szItem_ok (x := a[k]) (hx _ (List.getElem_mem hlt)) hl0 hl1
      have es' : M.laws_szItem (a[k].1, a[k].2.1, a[k].2.2) l = some s := es
      rw [loopM_eq]
      simp only [e1, cond_true, gidx_nat hlt, Option.bind_some, es', e2]
      rcases hs with hs | ⟨hs0, hs1, hs2⟩
      · exact ⟨.inr (-1), by simp [hs, selim], .inl rfl⟩
      · obtain ⟨r, hr, hr'⟩ := ih (k + 1) s (by omega) hs0 (by omega)
        refine ⟨r, ?_, ?_⟩
        · have : ¬ s < 0 := by omega
          simp only [this, decide_false, cond_false, selim, Option.bind_some]
          exact hr
        · rcases hr' with hr' | ⟨l', e, h0', hall⟩
          · exact .inl hr'
          · refine .inr ⟨l', e, h0', ?_⟩
            rw [List.drop_eq_getElem_cons hlt]
            intro x hx'
            rcases List.mem_cons.1 hx' with h | h
            · subst h; exact hs2
            · exact hall x h
  obtain ⟨r, hr, hr'⟩ := key a.length 0 (left - a.length) (by omega) (by omega) (by omega)
  simp only [Int.cast_ofNat_Int] at hr
  rw [hr]
  rcases hr' with rfl | ⟨l', rfl, h0', hall⟩
  · exact ⟨-1, rfl, .inl (by omega)⟩
  · exact ⟨l', rfl, .inr ⟨h0', hl, by simpa using hall⟩⟩

theorem eqItem_self {x : Item} (h : x.2.1.length < 2000000) : M.laws_eqItem (x.1, x.2.1, x.2.2) (x.1, x.2.1, x.2.2) = some true := by
  unfold M.laws_eqItem
  simp only [bne_self_eq_false, cond_false, eqIntS_ok h, decide_true, Bool.not_true, Option.bind_some]
theorem eqItemS_self {a : List Item} (h : a.length < 2000000) (hx : ∀ x ∈ a, x.2.1.length < 2000000) : M.laws_eqItemS a a = some true := by
  unfold M.laws_eqItemS
  simp only [bne_self_eq_false, cond_false]
  rw [loop_all (xs := a) (P := fun _ => true) (r := false)]
  · simp [selim]
  · intro i hi
    have e1 : decide ((i : Int) < (a.length : Int)) = true := by simpa using hi
    have e2 : w64 ((i : Int) + 1) = (i : Int) + 1 := w64_id (by omega) (by omega)
    simp only [e1, cond_true, gidx_nat hi, Option.bind_some, eqItem_self (hx _ (List.getElem_mem hi)), Bool.not_true, cond_false, e2, if_true]
  · simp

end Go.Vs

namespace Go.Vs

theorem w64_succ {i : Nat} (h : i < 4000000000000000000) : w64 ((i : Int) + 1) = ((i + 1 : Nat) : Int) := w64_id (by omega) (by omega)

section
variable {α S T R U : Type} {xs : List α}
theorem loop_fold (st : S → Int → T) (g : S → α → S) (Inv : Nat → S → Prop) {fin : S → R} {f : T → Option (T ⊕ R)} {s0 : S} (h0 : Inv 0 s0)
    (hs : ∀ s i (h : i < xs.length), Inv i s → f (st s (i : Int)) = some (.inl (st (g s xs[i]) ((i + 1 : Nat) : Int))) ∧ Inv (i + 1) (g s xs[i]))
    (he : ∀ s, Inv xs.length s → f (st s (xs.length : Int)) = some (.inr (fin s))) :
    loopM f (st s0 0) = some (fin (xs.foldl g s0)) ∧ Inv xs.length (xs.foldl g s0) := by
  have key : ∀ m k : Nat, ∀ s, k + m = xs.length → Inv k s → loopM f (st s (k : Int)) = some (fin ((xs.drop k).foldl g s)) ∧ Inv xs.length ((xs.drop k).foldl g s) := by
    intro m
    induction m with
    | zero =>
      intro k s hk hi
      have : k = xs.length := by omega
      subst this
      rw [loopM_eq, he s hi]; simpa [selim] using hi
    | succ m ih =>
      intro k s hk hi
      have hlt : k < xs.length := by omega
      obtain ⟨h1, h2⟩ := hs s k hlt hi
      rw [loopM_eq, h1, List.drop_eq_getElem_cons hlt]
      exact ih (k + 1) _ (by omega) h2
  have := key xs.length 0 s0 (by omega) h0
  simpa using this
theorem fold_bind (st : S → Int → T) (g : S → α → S) (Inv : Nat → S → Prop) (fin : S → R) {f : T → Option (T ⊕ R)} {s0 : S} {k : R → Option U} {r : Option U} (h0 : Inv 0 s0)
    (hs : ∀ s i (h : i < xs.length), Inv i s → f (st s (i : Int)) = some (.inl (st (g s xs[i]) ((i + 1 : Nat) : Int))) ∧ Inv (i + 1) (g s xs[i]))
    (he : ∀ s, Inv xs.length s → f (st s (xs.length : Int)) = some (.inr (fin s)))
    (hk : Inv xs.length (xs.foldl g s0) → k (fin (xs.foldl g s0)) = r) : (loopM f (st s0 0)).bind k = r := by
  obtain ⟨h1, h2⟩ := loop_fold st g Inv (fin := fin) h0 hs he
  rw [h1]; exact hk h2
theorem loop_first (p : α → Bool) (r : Nat → R) {f : Int → Option (Int ⊕ (Unit ⊕ R))}
    (hs : ∀ i (h : i < xs.length), f (i : Int) = some (if p xs[i] = true then .inr (.inr (r i)) else .inl ((i + 1 : Nat) : Int))) (he : f (xs.length : Int) = some (.inr (.inl ()))) :
    loopM f 0 = some (match xs.findIdx? p with | some i => .inr (r i) | none => .inl ()) := by
  have key : ∀ m k : Nat, k + m = xs.length → loopM f (k : Int) = some (match (xs.drop k).findIdx? p with | some i => .inr (r (k + i)) | none => .inl ()) := by
    intro m
    induction m with
    | zero =>
      intro k hk
      have : k = xs.length := by omega
      subst this
      rw [loopM_eq, he]; simp [selim]
    | succ m ih =>
      intro k hk
      have hlt : k < xs.length := by omega
      rw [loopM_eq, hs k hlt, List.drop_eq_getElem_cons hlt, List.findIdx?_cons]
      by_cases hp : p xs[k] = true
      · simp [hp, selim]
      · simp only [hp, if_false, selim, Option.bind_some, Bool.false_eq_true]
        rw [ih (k + 1) (by omega)]
        cases h : List.findIdx? p (List.drop (k + 1) xs) with
        | none => rfl
        | some i => simp only [Option.map_some]; rw [show k + 1 + i = k + (i + 1) by omega]
  have := key xs.length 0 (by omega)
  simpa using this
end

/-! ## Valid stores as lists that ascend -/
theorem okFrom_iff {l : List Item} : ∀ {p : Int}, okFrom p l = true ↔ (∀ x ∈ l, isItem x = true ∧ p < x.1) ∧ l.Pairwise (fun x y => x.1 < y.1) := by
  induction l with
  | nil => intro p; simp [okFrom]
  | cons x l ih =>
    intro p
    simp only [okFrom, Bool.and_eq_true, decide_eq_true_eq, ih, List.pairwise_cons, List.mem_cons, forall_eq_or_imp]
    constructor
    · rintro ⟨⟨h1, h2⟩, h3, h4⟩
      exact ⟨⟨⟨h1, h2⟩, fun y hy => ⟨(h3 y hy).1, by have := (h3 y hy).2; omega⟩⟩, fun y hy => (h3 y hy).2, h4⟩
    · rintro ⟨⟨⟨h1, h2⟩, h3⟩, h4, h5⟩
      exact ⟨⟨h1, h2⟩, fun y hy => ⟨(h3 y hy).1, h4 y hy⟩, h5⟩
theorem isItem_iff {x : Item} : isItem x = true ↔ (1 ≤ x.1 ∧ x.1 ≤ 99) ∧ isVec x.2.1 = true ∧ 0 ≤ x.2.2 ∧ x.2.2 ≤ 15 := by
  unfold isItem; simp only [Bool.and_eq_true, decide_eq_true_eq]
theorem okStore_iff {l : List Item} : okStore l = true ↔ l.length ≤ 16 ∧ (∀ x ∈ l, isItem x = true) ∧ l.Pairwise (fun x y => x.1 < y.1) := by
  unfold okStore
  simp only [Bool.and_eq_true, decide_eq_true_eq, okFrom_iff]
  constructor
  · rintro ⟨h1, h2, h3⟩; exact ⟨h1, fun x hx => (h2 x hx).1, h3⟩
  · rintro ⟨h1, h2, h3⟩; exact ⟨h1, fun x hx => ⟨h2 x hx, by have := (isItem_iff.1 (h2 x hx)).1.1; omega⟩, h3⟩
theorem okStore_sub {l m : List Item} (h : okStore l = true) (hs : m.Sublist l) : okStore m = true := by
  obtain ⟨h1, h2, h3⟩ := okStore_iff.1 h
  exact okStore_iff.2 ⟨Nat.le_trans hs.length_le h1, fun x hx => h2 x (hs.subset hx), h3.sublist hs⟩
def SmallS (l : List Item) : Prop := l.length ≤ 1048576 ∧ ∀ x ∈ l, x.2.1.length ≤ 1048576
theorem SmallS.hb {l : List Item} (h : SmallS l) : ∀ x ∈ l, x.2.1.length < 2000000 := fun x hx => by have := h.2 x hx; omega
theorem SmallS.hL {l : List Item} (h : SmallS l) : l.length < 2000000 := by have := h.1; omega
theorem SmallS.impl {l : List Item} (h : SmallS l) : M.impl_ValidStore l = some (okStore l) := implStore_ok h.hb
theorem SmallS.specv {l : List Item} (h : SmallS l) : M.spec_validStore l = some (okStore l) := specStore_ok h.hb h.hL
/-! ## Putting -/
/-! ## Draws -/
def NearI (x : Item) : Prop := (0 ≤ x.1 ∧ x.1 ≤ 100) ∧ Near x.2.1 ∧ -1 ≤ x.2.2 ∧ x.2.2 ≤ 16
end Go.Vs

namespace Go.Vs

def cmpI (x y : Int) : Int := if x < y then -1 else if y < x then 1 else 0
theorem compare_ok (x y : Int) : M.cmp_Compare_int x y = some (cmpI x y) := by
  unfold M.cmp_Compare_int M.cmp_isNaN_int cmpI
  simp only [bne_self_eq_false, Option.bind_some, cond_false]
  by_cases h1 : x < y
  · simp [h1]
  · by_cases h2 : y < x <;> simp [h1, h2]
theorem cmpI_neg {x y : Int} : cmpI x y < 0 ↔ x < y := by unfold cmpI; split <;> (try split) <;> omega
theorem cmpI_zero {x y : Int} : cmpI x y = 0 ↔ x = y := by unfold cmpI; split <;> (try split) <;> omega
theorem cmpI_pos {x y : Int} : 0 < cmpI x y ↔ y < x := by unfold cmpI; split <;> (try split) <;> omega

theorem keyAt_ok {l : List Item} {k : Int} (hl : l.length < 2000000) : M.spec_keyAt l k = some (match l.findIdx? (fun x => x.1 == k) with | some i => (i : Int) | none => -1) := by
  unfold M.spec_keyAt
  rw [loop_first (xs := l) (fun x => x.1 == k) (fun i => (i : Int))]
  · cases l.findIdx? (fun x => x.1 == k) <;> rfl
  · intro i h
    have e1 : decide ((i : Int) < (l.length : Int)) = true := decide_eq_true (by omega)
    simp only [e1, cond_true, gidx_nat h, Option.bind_some, w64_succ (i := i) (by omega)]
    cases l[i].1 == k <;> rfl
  · simp
def zItem : Item := (0, [], 0)
end Go.Vs

namespace Go.Vs

section
variable {α S T R U : Type} {xs : List α}
end

theorem isItem_vec {x : Item} (h : isItem x = true) : isVec x.2.1 = true := (isItem_iff.1 h).2.1

end Go.Vs

namespace Go.Vs

/-! ## InBox -/
end Go.Vs

namespace Go.Vs

def isKind (k : Int) : Bool := decide (1 ≤ k) && decide (k ≤ 4)
theorem isKind_iff {k : Int} : isKind k = true ↔ 1 ≤ k ∧ k ≤ 4 := by unfold isKind; simp
theorem implKind_ok (k : Int) : M.impl_validKind k = some (isKind k) := by
  unfold M.impl_validKind isKind
  by_cases h : 1 ≤ k <;> simp [h]
theorem specKind_ok (k : Int) : M.spec_validKind k = some (isKind k) := by
  unfold M.spec_validKind; simp only [spec_inR, Option.bind_some]; rfl
theorem specDist_vec {k : Int} {a b : List Int} (hk : isKind k = true) (ha : isVec a = true) (hb : isVec b = true) : M.spec_dist k a b = some (dist k a b) := by
  obtain ⟨x0, x1, x2, x3, rfl, c0, c1, c2, c3⟩ := isVec_cut ha
  obtain ⟨y0, y1, y2, y3, rfl, e0, e1, e2, e3⟩ := isVec_cut hb
  rw [dist_vec ha hb]
  exact specDist_ok (isKind_iff.1 hk) c0 c1 c2 c3 e0 e1 e2 e3
theorem implDist_vec {k : Int} {a b : List Int} (ha : isVec a = true) (hb : isVec b = true) : M.impl_Distance k a b = some (dist k a b) :=
  implDistance_ok k (by rw [(isVec_iff.1 ha).1]; omega) (by rw [(isVec_iff.1 hb).1]; omega)

end Go.Vs

namespace Go.Vs

/-! ## What is drawn -/
theorem NearI.le {x : Item} (h : NearI x) : x.2.1.length ≤ 1048576 := by have := h.2.1.1; omega
section
variable {code : List UInt8}
end
end Go.Vs

namespace Go.Vs

end Go.Vs

namespace Go.Vs

def upFrom (k : Int) (n : Nat) : List Int := (List.range n).map fun i : Nat => k + (i : Int)
theorem upFrom_len {k : Int} {n : Nat} : (upFrom k n).length = n := by simp [upFrom]
theorem markIntS_ok {a : List Int} {k : Int} (ha : a.length < 2000000) (h0 : 0 ≤ k) (h1 : k ≤ 2000000000000000) : M.laws_markIntS a k = some (k + (a.length : Int), upFrom k a.length) := by
  unfold M.laws_markIntS
  have hloop := loop_run (R := List Int × Int) (f := fun (s2 : (List Int) × (Int) × (Int)) => (bif decide (s2.2.2 < (s2.1.length : Int)) then
  (gidx s2.1 s2.2.2).bind fun x6 =>
  some (.inl ((s2.1.set s2.2.2.toNat s2.2.1), w64 (s2.2.1 + 1), w64 (s2.2.2 + 1)))
 else
  some (.inr (s2.1, s2.2.1)))) (r := (upFrom k a.length, k + (a.length : Int))) a.length (fun i => (upFrom k i ++ a.drop i, k + (i : Int), (i : Int))) (by
    intro i hi
    have hl : (upFrom k i ++ a.drop i).length = a.length := by rw [List.length_append, upFrom_len, List.length_drop]; omega
    have e1 : decide ((i : Int) < ((upFrom k i ++ a.drop i).length : Int)) = true := decide_eq_true (by omega)
    have e2 : w64 ((i : Int) + 1) = ((i + 1 : Nat) : Int) := w64_id (by omega) (by omega)
    have e3 : w64 (k + (i : Int) + 1) = k + ((i + 1 : Nat) : Int) := by rw [w64_id (by omega) (by omega)]; omega
    have hl' : i < (upFrom k i ++ a.drop i).length := by omega
    simp only [e1, cond_true, gidx_nat hl', Option.bind_some, e2, e3, Int.toNat_natCast, Option.some.injEq, Sum.inl.injEq, Prod.mk.injEq, and_true]
    rw [List.set_append_right _ _ (by rw [upFrom_len]; omega), upFrom_len, Nat.sub_self, List.drop_eq_getElem_cons hi, List.set_cons_zero]
    simp [upFrom, List.range_succ]) (by
    have e1 : decide (((a.length : Nat) : Int) < ((upFrom k a.length ++ a.drop a.length).length : Int)) = false := decide_eq_false (by rw [List.length_append, upFrom_len]; simp)
    simp only [List.drop_length, List.append_nil] at e1 ⊢
    simp only [e1, cond_false])
  simp only [upFrom, List.range_zero, List.map_nil, List.nil_append, List.drop_zero, Int.cast_ofNat_Int, Int.add_zero] at hloop
  rw [hloop]; rfl
end Go.Vs

namespace Go.Vs

theorem dItemS_ok {a : List Item} (h : a.length ≤ 1048576) (hx : ∀ x ∈ a, x.2.1.length ≤ 1048576) : M.dItemS a = some a := by
  unfold M.dItemS
  rw [if_pos ⟨by omega, fun x hx' => toIntS_ok (hx x hx')⟩]
theorem dIntSS_ok {a : List (List Int)} (h : a.length ≤ 1048576) (hx : ∀ x ∈ a, x.length ≤ 1048576) : M.dIntSS a = some a := by
  unfold M.dIntSS
  rw [if_pos ⟨by omega, fun x hx' => toIntS_ok (hx x hx')⟩]
theorem dmarkItemS_ok : ∀ (a : List Item) (k : Int), (∀ x ∈ a, x.2.1.length ≤ 1048576) → 0 ≤ k → k + a.length * 1048578 ≤ 1999999999999990 → ∃ r, M.dmarkItemS a k = some r ∧ k ≤ r ∧ r ≤ k + a.length * 1048578
  | [], k, _, _, _ => ⟨k, rfl, Int.le_refl _, by simp⟩
  | x :: a, k, hx, h0, h1 => by
    have hl := hx x (by simp)
    have h2 : ((x :: a).length : Int) = a.length + 1 := by simp
    rw [h2] at h1
    have e1 : w64 (k + 1) = k + 1 := w64_id (by omega) (by omega)
    have hm := markIntS_ok (a := x.2.1) (k := k + 1) (by omega) (by omega) (by omega)
    have e2 : w64 (k + 1 + (x.2.1.length : Int) + 1) = k + 1 + (x.2.1.length : Int) + 1 := w64_id (by omega) (by omega)
    obtain ⟨r, hr, g1, g2⟩ := dmarkItemS_ok a (k + 1 + (x.2.1.length : Int) + 1) (fun y hy => hx y (by simp [hy])) (by omega) (by omega)
    refine ⟨r, ?_, by omega, by rw [h2]; omega⟩
    simp only [M.dmarkItemS, e1, hm, Option.bind_some, e2, hr]
theorem dmarkIntSS_ok : ∀ (a : List (List Int)) (k : Int), (∀ x ∈ a, x.length ≤ 1048576) → 0 ≤ k → k + a.length * 1048578 ≤ 1999999999999990 → ∃ r, M.dmarkIntSS a k = some r ∧ k ≤ r ∧ r ≤ k + a.length * 1048578
  | [], k, _, _, _ => ⟨k, rfl, Int.le_refl _, by simp⟩
  | x :: a, k, hx, h0, h1 => by
    have hl := hx x (by simp)
    have h2 : ((x :: a).length : Int) = a.length + 1 := by simp
    rw [h2] at h1
    have hm := markIntS_ok (a := x) (k := k) (by omega) (by omega) (by omega)
    obtain ⟨r, hr, g1, g2⟩ := dmarkIntSS_ok a (k + (x.length : Int)) (fun y hy => hx y (by simp [hy])) (by omega) (by omega)
    refine ⟨r, ?_, by omega, by rw [h2]; omega⟩
    simp only [M.dmarkIntSS, hm, Option.bind_some, hr]
theorem markIntSD_ok {a : List (List Int)} (h : a.length ≤ 1048576) (hx : ∀ x ∈ a, x.length ≤ 1048576) : ∃ r, M.markIntSD a 1 = some r ∧ 1 ≤ r ∧ r ≤ 1100000000000 := by
  obtain ⟨r, hr, h1, h2⟩ := dmarkIntSS_ok a 1 hx (by omega) (by omega)
  refine ⟨r, ?_, h1, by omega⟩
  unfold M.markIntSD
  rw [if_pos (by omega), hr]
theorem markItemD_at {a : List Item} {k : Int} (h : a.length ≤ 1048576) (hx : ∀ x ∈ a, x.2.1.length ≤ 1048576) (h0 : 0 ≤ k) (h1 : k ≤ 100000000000000) : ∃ r, M.markItemD a k = some r ∧ k ≤ r ∧ r ≤ k + 1100000000000 := by
  obtain ⟨r, hr, h1, h2⟩ := dmarkItemS_ok a k hx (by omega) (by omega)
  refine ⟨r, ?_, h1, by omega⟩
  unfold M.markItemD
  rw [if_pos (by omega), hr]
theorem markIntSD_at {a : List (List Int)} {k : Int} (h : a.length ≤ 1048576) (hx : ∀ x ∈ a, x.length ≤ 1048576) (h0 : 0 ≤ k) (h1 : k ≤ 100000000000000) : ∃ r, M.markIntSD a k = some r ∧ k ≤ r ∧ r ≤ k + 1100000000000 := by
  obtain ⟨r, hr, h1, h2⟩ := dmarkIntSS_ok a k hx (by omega) (by omega)
  refine ⟨r, ?_, h1, by omega⟩
  unfold M.markIntSD
  rw [if_pos (by omega), hr]
theorem one0 : (0 : Int) ≤ 1 := by omega
theorem one1 : (1 : Int) ≤ 2000000000000000 := by omega

theorem eqIntSS_self {a : List (List Int)} (h : a.length < 2000000) (hx : ∀ x ∈ a, x.length < 2000000) : M.laws_eqIntSS a a = some true := by
  unfold M.laws_eqIntSS
  simp only [bne_self_eq_false, cond_false]
  rw [loop_all (xs := a) (P := fun _ => true) (r := false)]
  · simp [selim]
  · intro i hi
    have e1 : decide ((i : Int) < (a.length : Int)) = true := by simpa using hi
    have e2 : w64 ((i : Int) + 1) = (i : Int) + 1 := w64_id (by omega) (by omega)
    simp only [e1, cond_true, gidx_nat hi, Option.bind_some, eqIntS_ok (hx _ (List.getElem_mem hi)), decide_true, Bool.not_true, cond_false, e2, if_true]
  · simp
end Go.Vs

namespace Go.Vs

noncomputable def G.sift {α : Type} (cmp : α → α → Option Int) (data_0 : List α) (lo_1 : Int) (hi_2 : Int) (first_3 : Int) : Option ((List α)) :=
  Option.bind (loopM (fun (s2 : (List α) × (Int)) => (bif decide (hi_2 ≤ (w64 ((w64 (2 * s2.2)) + 1))) then
  some (.inr (.inl s2.1))
 else
  Option.bind ((bif decide ((w64 ((w64 ((w64 (2 * s2.2)) + 1)) + 1)) < hi_2) then
  (gidx s2.1 (w64 (first_3 + (w64 ((w64 (2 * s2.2)) + 1))))).bind fun x8 =>
  (gidx s2.1 (w64 ((w64 (first_3 + (w64 ((w64 (2 * s2.2)) + 1)))) + 1))).bind fun x15 =>
  (cmp x8 x15).bind fun r23 =>
  some (decide (r23 < 0))
 else
  some false)) fun o6 =>
  Option.bind ((bif o6 then
  some (w64 ((w64 ((w64 (2 * s2.2)) + 1)) + 1))
 else
  some (w64 ((w64 (2 * s2.2)) + 1)))) fun o29 =>
  (gidx s2.1 (w64 (first_3 + s2.2))).bind fun x32 =>
  (gidx s2.1 (w64 (first_3 + o29))).bind fun x39 =>
  (cmp x32 x39).bind fun r47 =>
  (bif !(decide (r47 < 0)) then
  some (.inr (.inr s2.1))
 else
  (gidx s2.1 (w64 (first_3 + o29))).bind fun x52 =>
  (gidx s2.1 (w64 (first_3 + s2.2))).bind fun x59 =>
  (gidx s2.1 (w64 (first_3 + s2.2))).bind fun x66 =>
  (gidx (s2.1.set (w64 (first_3 + s2.2)).toNat x52) (w64 (first_3 + o29))).bind fun x72 =>
  some (.inl (((s2.1.set (w64 (first_3 + s2.2)).toNat x52).set (w64 (first_3 + o29)).toNat x59), o29))))) (data_0, lo_1)) (selim (fun t78 => some t78)
   (fun t81 => some t81))

noncomputable def G.heap {α : Type} (cmp : α → α → Option Int) (data_0 : List α) (a_1 : Int) (b_2 : Int) : Option ((List α)) :=
  Option.bind (loopM (fun (s2 : (List α) × (Int)) => (bif decide (0 ≤ s2.2) then
  (G.sift cmp s2.1 s2.2 (w64 (b_2 - a_1)) a_1).bind fun r6 =>
  some (.inl (r6, w64 (s2.2 - 1)))
 else
  some (.inr s2.1))) (data_0, w64 ((w64 ((w64 (b_2 - a_1)) - 1)).tdiv 2))) fun o1 =>
  Option.bind (loopM (fun (s14 : (List α) × (Int)) => (bif decide (0 ≤ s14.2) then
  (gidx s14.1 (w64 (a_1 + s14.2))).bind fun x18 =>
  (gidx s14.1 a_1).bind fun x25 =>
  (gidx s14.1 a_1).bind fun x32 =>
  (gidx (s14.1.set a_1.toNat x18) (w64 (a_1 + s14.2))).bind fun x38 =>
  (G.sift cmp ((s14.1.set a_1.toNat x18).set (w64 (a_1 + s14.2)).toNat x25) 0 s14.2 a_1).bind fun r44 =>
  some (.inl (r44, w64 (s14.2 - 1)))
 else
  some (.inr s14.1))) (o1, w64 ((w64 (b_2 - a_1)) - 1))) fun o13 =>
  some o13

noncomputable def G.o2 {α : Type} (cmp : α → α → Option Int) (data_0 : List α) (a_1 : Int) (b_2 : Int) (swaps_3 : Int) : Option (Int × Int × Int) :=
  (gidx data_0 b_2).bind fun x1 =>
  (gidx data_0 a_1).bind fun x8 =>
  (cmp x1 x8).bind fun r16 =>
  (bif decide (r16 < 0) then
  some (b_2, a_1, w64 (swaps_3 + 1))
 else
  some (a_1, b_2, swaps_3))

section
noncomputable abbrev cmpHits : Int × Int → Int × Int → Option Int := fun x y => M.impl_compareHits (x.1, x.2) (y.1, y.2)
end
end Go.Vs

namespace Go.Vs

section
variable {α : Type} [Inhabited α]
def el (d : List α) (i : Nat) : α := d.getD i default
theorem el_lt {d : List α} {i : Nat} (h : i < d.length) : el d i = d[i] := by simp [el, List.getD, h]
theorem gidx_el {d : List α} {i : Nat} (h : i < d.length) : gidx d (i : Int) = some (el d i) := by rw [gidx_nat h, el_lt h]
theorem el_set {d : List α} {i k : Nat} {x : α} (h : i < d.length) : el (d.set i x) k = if k = i then x else el d k := by
  unfold el
  simp only [List.getD_eq_getElem?_getD, List.getElem?_set]
  by_cases e : i = k
  · subst e; simp [h]
  · simp [e, Ne.symm e]
def swp (d : List α) (i j : Nat) : List α := (d.set i (el d j)).set j (el d i)
theorem swp_len {d : List α} {i j : Nat} : (swp d i j).length = d.length := by simp [swp]
theorem el_swp {d : List α} {i j k : Nat} (hi : i < d.length) (hj : j < d.length) : el (swp d i j) k = if k = j then el d i else if k = i then el d j else el d k := by
  unfold swp
  rw [el_set (by simpa using hj), el_set hi]
theorem swp_perm {d : List α} {i j : Nat} (hi : i < d.length) (hj : j < d.length) : (swp d i j).Perm d := by
  unfold swp
  rw [el_lt hi, el_lt hj]
  exact List.set_set_perm hi hj

structure PermR (a b : Nat) (d d' : List α) : Prop where
  len : d'.length = d.length
  out : ∀ i, i < a ∨ b ≤ i → el d' i = el d i
  perm : d'.Perm d
theorem PermR.refl {a b : Nat} (d : List α) : PermR a b d d := ⟨rfl, fun _ _ => rfl, List.Perm.refl _⟩
theorem PermR.trans {a b : Nat} {d d' d'' : List α} (h : PermR a b d d') (k : PermR a b d' d'') : PermR a b d d'' :=
  ⟨k.len.trans h.len, fun i hi => (k.out i hi).trans (h.out i hi), k.perm.trans h.perm⟩
theorem PermR.mono {a b a' b' : Nat} {d d' : List α} (h : PermR a b d d') (ha : a' ≤ a) (hb : b ≤ b') : PermR a' b' d d' :=
  ⟨h.len, fun i hi => h.out i (by omega), h.perm⟩
theorem PermR.swp {a b i j : Nat} {d : List α} (h1 : a ≤ i) (h2 : i < b) (h3 : a ≤ j) (h4 : j < b) (h5 : b ≤ d.length) : PermR a b d (swp d i j) :=
  ⟨swp_len, fun k hk => by rw [el_swp (by omega) (by omega), if_neg (by omega), if_neg (by omega)], swp_perm (by omega) (by omega)⟩
theorem PermR.mem {a b : Nat} {d d' : List α} (h : PermR a b d d') (hab : a ≤ b) (hb : b ≤ d.length) {i : Nat} (h1 : a ≤ i) (h2 : i < b) : ∃ j, a ≤ j ∧ j < b ∧ el d' i = el d j := by
  have cut : ∀ (e : List α), e.length = d.length → e = e.take a ++ ((e.take b).drop a ++ e.drop b) := by
    intro e he
    rw [← List.append_assoc]
    have : e.take a ++ (e.take b).drop a = e.take b := by
      have := List.take_append_drop a (e.take b)
      rwa [List.take_take, Nat.min_eq_left hab] at this
    rw [this, List.take_append_drop]
  have hl := h.len
  have e1 : d'.take a = d.take a := by
    apply List.ext_getElem
    · simp [hl]
    · intro k h3 h4
      simp only [List.length_take] at h3 h4
      rw [List.getElem_take, List.getElem_take, ← el_lt, ← el_lt]
      exact h.out k (by omega)
  have e2 : d'.drop b = d.drop b := by
    apply List.ext_getElem
    · simp [hl]
    · intro k h3 h4
      simp only [List.length_drop] at h3 h4
      rw [List.getElem_drop, List.getElem_drop, ← el_lt, ← el_lt]
      exact h.out (b + k) (by omega)
  have hp := h.perm
  rw [cut d' hl, cut d rfl, e1, e2] at hp
  have hp2 := (List.perm_append_right_iff _).1 ((List.perm_append_left_iff _).1 hp)
  have hm : el d' i ∈ (d'.take b).drop a := by
    rw [el_lt (by omega)]
    refine List.mem_iff_getElem.2 ⟨i - a, by simp; omega, ?_⟩
    simp only [List.getElem_drop, List.getElem_take]
    congr 1; omega
  have hm2 := hp2.mem_iff.1 hm
  obtain ⟨k, hk, e⟩ := List.mem_iff_getElem.1 hm2
  simp only [List.length_drop, List.length_take] at hk
  refine ⟨a + k, by omega, by omega, ?_⟩
  rw [← e, el_lt (by omega)]
  simp only [List.getElem_drop, List.getElem_take]
end

structure Lin {α : Type} (lt : α → α → Bool) (p : α → Prop) : Prop where
  irrefl : ∀ x, p x → lt x x = false
  trans : ∀ x y z, p x → p y → p z → lt x y = true → lt y z = true → lt x z = true
  total : ∀ x y, p x → p y → x ≠ y → lt x y = true ∨ lt y x = true
theorem Lin.asymm {α : Type} {lt : α → α → Bool} {p : α → Prop} (h : Lin lt p) {x y : α} (hx : p x) (hy : p y) (hl : lt x y = true) : lt y x = false := by
  cases e : lt y x with
  | false => rfl
  | true => have := h.trans x y x hx hy hx hl e; rw [h.irrefl x hx] at this; cases this
theorem Lin.ntrans {α : Type} {lt : α → α → Bool} {p : α → Prop} (h : Lin lt p) {x y z : α} (hx : p x) (hy : p y) (hz : p z) (h1 : lt x y = false) (h2 : lt y z = false) : lt x z = false := by
  cases e : lt x z with
  | false => rfl
  | true =>
    rcases Classical.em (x = y) with rfl | hne
    · rw [h2] at e; cases e
    · rcases h.total x y hx hy hne with h' | h'
      · rw [h1] at h'; cases h'
      · have := h.trans y x z hy hx hz h' e
        rw [h2] at this; cases this
def CmpOk {α : Type} (cmp : α → α → Option Int) (lt : α → α → Bool) (p : α → Prop) : Prop := ∀ x y, p x → p y → ∃ r, cmp x y = some r ∧ decide (r < 0) = lt x y

def AllP {α : Type} [Inhabited α] (p : α → Prop) (d : List α) : Prop := ∀ i, i < d.length → p (el d i)
theorem AllP.of {α : Type} [Inhabited α] {p : α → Prop} {d : List α} (h : ∀ x ∈ d, p x) : AllP p d := fun i hi => h _ (by rw [el_lt hi]; exact List.getElem_mem _)
theorem AllP.perm {α : Type} [Inhabited α] {p : α → Prop} {d d' : List α} (h : AllP p d) (hp : d'.Perm d) : AllP p d' := by
  refine AllP.of fun x hx => ?_
  obtain ⟨i, hi, e⟩ := List.mem_iff_getElem.1 (hp.mem_iff.1 hx)
  rw [← e, ← el_lt hi]; exact h i hi
def Asc {α : Type} [Inhabited α] (lt : α → α → Bool) (a b : Nat) (d : List α) : Prop := ∀ i j, a ≤ i → i < j → j < b → lt (el d j) (el d i) = false
end Go.Vs

namespace Go.Vs

theorem w64_pred {j : Nat} (h : 1 ≤ j) (h2 : j < 4000000000000000000) : w64 ((j : Int) - 1) = ((j - 1 : Nat) : Int) := by rw [w64_id (by omega) (by omega)]; omega

section
variable {α : Type} {cmp : α → α → Option Int} {lt : α → α → Bool} {p : α → Prop}
theorem cmp_of (hc : CmpOk cmp lt p) {x y : α} (hx : p x) (hy : p y) : (cmp x y).bind (fun r => some (decide (r < 0))) = some (lt x y) := by
  obtain ⟨r, h1, h2⟩ := hc x y hx hy
  rw [h1, Option.bind_some, h2]
end

section
variable {α : Type} [Inhabited α] {cmp : α → α → Option Int} {lt : α → α → Bool} {p : α → Prop}
theorem gidx_set {d : List α} {i j : Nat} {x : α} (hj : j < d.length) : gidx (d.set i x) (j : Int) = some (el (d.set i x) j) := gidx_el (by simpa using hj)
theorem swp_def (d : List α) (i j : Nat) : (d.set i (el d j)).set j (el d i) = swp d i j := rfl
theorem ins_inner (hc : CmpOk cmp lt p) (hl : Lin lt p) {a i : Nat} {d0 : List α} (hi : i < d0.length) (hn : d0.length < 1000000000) (hp : AllP p d0) : ∀ (d : List α) (j : Nat), a ≤ j → j ≤ i → PermR a (i + 1) d0 d →
    (∀ x y, a ≤ x → x < y → y ≤ i → x ≠ j → y ≠ j → lt (el d y) (el d x) = false) → (∀ y, j < y → y ≤ i → lt (el d y) (el d j) = false) →
    ∃ d', loopM (fun (s7 : (List α) × (Int)) => Option.bind ((bif decide ((a : Int) < s7.2) then
  (gidx s7.1 s7.2).bind fun x12 =>
  (gidx s7.1 (w64 (s7.2 - 1))).bind fun x19 =>
  (cmp x12 x19).bind fun r27 =>
  some (decide (r27 < 0))
 else
  some false)) fun o10 =>
  (bif o10 then
  (gidx s7.1 (w64 (s7.2 - 1))).bind fun x34 =>
  (gidx s7.1 s7.2).bind fun x41 =>
  (gidx s7.1 s7.2).bind fun x48 =>
  (gidx (s7.1.set s7.2.toNat x34) (w64 (s7.2 - 1))).bind fun x54 =>
  some (.inl (((s7.1.set s7.2.toNat x34).set (w64 (s7.2 - 1)).toNat x41), w64 (s7.2 - 1)))
 else
  some (.inr s7.1))) (d, (j : Int)) = some d' ∧ PermR a (i + 1) d0 d' ∧ Asc lt a (i + 1) d' := by
  intro d j
  induction j generalizing d with
  | zero =>
    intro ha _ hP h1 h2
    have e1 : decide ((a : Int) < ((0 : Nat) : Int)) = false := decide_eq_false (by omega)
    rw [loopM_eq]
    simp only [e1, cond_false, Option.bind_some, selim]
    refine ⟨d, rfl, hP, fun x y hx hxy hy => ?_⟩
    by_cases hx0 : x = 0
    · subst hx0; exact h2 y hxy (by omega)
    · exact h1 x y hx hxy (by omega) hx0 (by omega)
  | succ j ih =>
    intro ha hji hP h1 h2
    have hlen := hP.len
    have hpd := hp.perm hP.perm
    have ej : w64 (((j + 1 : Nat) : Int) - 1) = (j : Int) := w64_pred (by omega) (by omega)
    rw [loopM_eq]
    by_cases haj : a < j + 1
    · have e1 : decide ((a : Int) < ((j + 1 : Nat) : Int)) = true := decide_eq_true (by omega)
      simp only [e1, cond_true, ej, gidx_el (d := d) (i := j + 1) (by omega), gidx_el (d := d) (i := j) (by omega), Option.bind_some, cmp_of hc (hpd (j + 1) (by omega)) (hpd j (by omega))]
      cases hlt : lt (el d (j + 1)) (el d j) with
      | true =>
        simp only [cond_true, gidx_set (d := d) (i := j + 1) (j := j) (x := el d j) (by omega), Option.bind_some, Int.toNat_natCast, swp_def, selim]
        have sw : ∀ k, el (swp d (j + 1) j) k = if k = j then el d (j + 1) else if k = j + 1 then el d j else el d k := fun k => el_swp (by omega) (by omega)
        refine ih (swp d (j + 1) j) (by omega) (by omega) (hP.trans (PermR.swp (by omega) (by omega) (by omega) (by omega) (by omega))) ?_ ?_
        · intro x y hx hxy hy hxj hyj
          rw [sw, sw, if_neg hyj, if_neg hxj]
          by_cases hyj1 : y = j + 1
          · subst hyj1
            rw [if_pos rfl, if_neg (by omega)]
            exact h1 x j hx (by omega) (by omega) (by omega) (by omega)
          · rw [if_neg hyj1]
            by_cases hxj1 : x = j + 1
            · subst hxj1
              rw [if_pos rfl]
              exact h1 j y (by omega) (by omega) hy (by omega) hyj1
            · rw [if_neg hxj1]
              exact h1 x y hx hxy hy hxj1 hyj1
        · intro y hy hyi
          rw [sw, sw, if_neg (by omega), if_pos rfl]
          by_cases hyj1 : y = j + 1
          · subst hyj1
            rw [if_pos rfl]
            exact hl.asymm (hpd _ (by omega)) (hpd _ (by omega)) hlt
          · rw [if_neg hyj1]
            exact h2 y (by omega) hyi
      | false =>
        simp only [cond_false, selim]
        refine ⟨d, rfl, hP, fun x y hx hxy hy => ?_⟩
        by_cases hxj : x = j + 1
        · subst hxj; exact h2 y hxy (by omega)
        · by_cases hyj : y = j + 1
          · subst hyj
            by_cases hxj2 : x = j
            · subst hxj2; exact hlt
            · exact hl.ntrans (hpd _ (by omega)) (hpd j (by omega)) (hpd _ (by omega)) hlt (h1 x j hx (by omega) (by omega) hxj (by omega))
          · exact h1 x y hx hxy (by omega) hxj hyj
    · have e1 : decide ((a : Int) < ((j + 1 : Nat) : Int)) = false := decide_eq_false (by omega)
      have : a = j + 1 := by omega
      simp only [e1, cond_false, Option.bind_some, selim]
      refine ⟨d, rfl, hP, fun x y hx hxy hy => ?_⟩
      by_cases hx0 : x = j + 1
      · subst hx0; exact h2 y hxy (by omega)
      · exact h1 x y hx hxy (by omega) hx0 (by omega)
end
end Go.Vs

namespace Go.Vs

section
variable {α : Type} [Inhabited α] {cmp : α → α → Option Int} {lt : α → α → Bool} {p : α → Prop}
end
end Go.Vs

namespace Go.Vs

theorem loop_ex {S R U : Type} {f : S → Option (S ⊕ R)} (J : S → Prop) (μ : S → Nat) (Z : R → Prop) (step : ∀ s, J s → (∃ s', f s = some (.inl s') ∧ J s' ∧ μ s' < μ s) ∨ ∃ r, f s = some (.inr r) ∧ Z r) {s : S} (hs : J s) {c : R → Option U} {P : U → Prop}
    (hk : ∀ r, Z r → ∃ u, c r = some u ∧ P u) : ∃ u, (loopM f s).bind c = some u ∧ P u := by
  obtain ⟨r, h1, h2⟩ := loopM_ind J μ Z step s hs
  obtain ⟨u, h3, h4⟩ := hk r h2
  exact ⟨u, by rw [h1]; exact h3, h4⟩

section
variable {α : Type} [Inhabited α] {cmp : α → α → Option Int} {lt : α → α → Bool} {p : α → Prop}

structure Parted (lt : α → α → Bool) (a b : Nat) (d : List α) (m : Nat) (d' : List α) : Prop where
  ge : a ≤ m
  le : m < b
  perm : PermR a b d d'
  low : ∀ i, a ≤ i → i < m → lt (el d' i) (el d' m) = true
  high : ∀ i, m < i → i < b → lt (el d' i) (el d' m) = false
end
end Go.Vs

namespace Go.Vs

section
variable {α : Type} [Inhabited α] {cmp : α → α → Option Int} {lt : α → α → Bool} {p : α → Prop}

def NIn (lt : α → α → Bool) (a0 b0 a b : Nat) (d : List α) : Prop := ∀ i j, a0 ≤ i → i < j → j < b0 → ¬ (a ≤ i ∧ j < b) → lt (el d j) (el d i) = false
theorem NIn.perm {a0 b0 a b : Nat} {d d' : List α} (h : NIn lt a0 b0 a b d) (hP : PermR a b d d') (ha : a0 ≤ a) (hab : a ≤ b) (hb : b ≤ b0) (hb0 : b0 ≤ d.length) : NIn lt a0 b0 a b d' := by
  intro i j h1 h2 h3 h4
  have cl : ∀ k, ∃ k', el d' k = el d k' ∧ ((a ≤ k ∧ k < b) → a ≤ k' ∧ k' < b) ∧ (¬ (a ≤ k ∧ k < b) → k' = k) := by
    intro k
    by_cases hk : a ≤ k ∧ k < b
    · obtain ⟨k', g1, g2, g3⟩ := hP.mem hab (by omega) hk.1 hk.2
      exact ⟨k', g3, fun _ => ⟨g1, g2⟩, fun h => absurd hk h⟩
    · exact ⟨k, hP.out k (by omega), fun h => absurd h hk, fun _ => rfl⟩
  obtain ⟨i', e1, q1, q2⟩ := cl i
  obtain ⟨j', e2, q3, q4⟩ := cl j
  rw [e1, e2]
  by_cases hi : a ≤ i ∧ i < b
  · have := q1 hi
    by_cases hj : a ≤ j ∧ j < b
    · exact absurd ⟨hi.1, hj.2⟩ h4
    · have := q4 hj; subst this; exact h i' j' (by omega) (by omega) h3 (by omega)
  · have := q2 hi; subst this
    by_cases hj : a ≤ j ∧ j < b
    · have := q3 hj; exact h i' j' h1 (by omega) (by omega) (by omega)
    · have := q4 hj; subst this; exact h i' j' h1 h2 h3 (by omega)
theorem NIn.done {a0 b0 a b : Nat} {d : List α} (h : NIn lt a0 b0 a b d) (hA : Asc lt a b d) : Asc lt a0 b0 d := by
  intro i j h1 h2 h3
  by_cases hc : a ≤ i ∧ j < b
  · exact hA i j hc.1 h2 hc.2
  · exact h i j h1 h2 h3 hc
end
end Go.Vs

namespace Go.Vs

abbrev Hit := Int × Int
def ltH (x y : Hit) : Bool := decide (x.2 < y.2 ∨ x.2 = y.2 ∧ x.1 < y.1)
theorem ltH_iff {x y : Hit} : ltH x y = true ↔ x.2 < y.2 ∨ x.2 = y.2 ∧ x.1 < y.1 := by simp [ltH]
theorem ltH_false {x y : Hit} : ltH x y = false ↔ ¬ (x.2 < y.2 ∨ x.2 = y.2 ∧ x.1 < y.1) := by simp [ltH]
theorem linH : Lin ltH (fun _ => True) where
  irrefl x _ := by rw [ltH_false]; omega
  trans x y z _ _ _ h1 h2 := by rw [ltH_iff] at *; omega
  total x y _ _ h := by
    rw [ltH_iff, ltH_iff]
    by_cases e : x.2 = y.2
    · have : x.1 ≠ y.1 := fun e2 => h (Prod.ext e2 e)
      omega
    · omega
theorem cmpOr_ok (a b : Int) : M.cmp_Or_int [a, b] = some (if a = 0 then b else a) := by
  unfold M.cmp_Or_int
  by_cases ha : a = 0
  · subst ha
    by_cases hb : b = 0
    · subst hb
      rw [loopM_eq]
      have e0 : decide ((0 : Int) < (([0, 0] : List Int).length : Int)) = true := rfl
      have g0 : gidx ([0, 0] : List Int) 0 = some 0 := rfl
      have w0 : w64 ((0 : Int) + 1) = 1 := rfl
      have e1 : decide ((1 : Int) < (([0, 0] : List Int).length : Int)) = true := rfl
      have g1 : gidx ([0, 0] : List Int) 1 = some 0 := rfl
      have w1 : w64 ((1 : Int) + 1) = 2 := rfl
      have e2 : decide ((2 : Int) < (([0, 0] : List Int).length : Int)) = false := rfl
      simp only [e0, cond_true, g0, Option.bind_some, bne_self_eq_false, cond_false, w0, selim]
      rw [loopM_eq]
      simp only [e1, cond_true, g1, Option.bind_some, bne_self_eq_false, cond_false, w1, selim]
      rw [loopM_eq]
      simp only [e2, cond_false, Option.bind_some, selim, if_true]
    · rw [loopM_eq]
      have e0 : decide ((0 : Int) < (([0, b] : List Int).length : Int)) = true := rfl
      have g0 : gidx ([0, b] : List Int) 0 = some 0 := rfl
      have w0 : w64 ((0 : Int) + 1) = 1 := rfl
      have e1 : decide ((1 : Int) < (([0, b] : List Int).length : Int)) = true := rfl
      have g1 : gidx ([0, b] : List Int) 1 = some b := rfl
      simp only [e0, cond_true, g0, Option.bind_some, bne_self_eq_false, cond_false, w0, selim]
      rw [loopM_eq]
      have hb' : (b != 0) = true := by simpa using hb
      simp only [e1, cond_true, g1, Option.bind_some, hb', selim, if_true]
  · rw [loopM_eq]
    have e0 : decide ((0 : Int) < (([a, b] : List Int).length : Int)) = true := rfl
    have g0 : gidx ([a, b] : List Int) 0 = some a := rfl
    have ha' : (a != 0) = true := by simpa using ha
    simp only [e0, cond_true, g0, Option.bind_some, ha', selim, if_neg ha]
theorem compareHits_ok (x y : Hit) : ∃ r, M.impl_compareHits (x.1, x.2) (y.1, y.2) = some r ∧ decide (r < 0) = ltH x y ∧ decide (0 < r) = ltH y x := by
  unfold M.impl_compareHits
  simp only [compare_ok, Option.bind_some, cmpOr_ok]
  refine ⟨_, rfl, ?_, ?_⟩
  · unfold ltH
    apply decide_eq_decide.2
    by_cases h : cmpI x.2 y.2 = 0
    · rw [if_pos h, cmpI_neg]; rw [cmpI_zero] at h; omega
    · rw [if_neg h, cmpI_neg]; rw [cmpI_zero] at h; omega
  · unfold ltH
    apply decide_eq_decide.2
    by_cases h : cmpI x.2 y.2 = 0
    · rw [if_pos h, cmpI_pos]; rw [cmpI_zero] at h; omega
    · rw [if_neg h, cmpI_pos]; rw [cmpI_zero] at h; omega
theorem cmpHits_ok : CmpOk cmpHits ltH (fun _ => True) := fun x y _ _ => by
  obtain ⟨r, h1, h2, _⟩ := compareHits_ok x y
  exact ⟨r, h1, h2⟩
theorem less_ok {h : List Hit} {i j : Nat} (hi : i < h.length) (hj : j < h.length) : M.impl_hitHeap_Less h (i : Int) (j : Int) = some (ltH (el h j) (el h i)) := by
  unfold M.impl_hitHeap_Less
  obtain ⟨r, h1, _, h3⟩ := compareHits_ok (el h i) (el h j)
  simp only [gidx_el hi, gidx_el hj, Option.bind_some, h1, h3]
theorem swap_ok {h : List Hit} {i j : Nat} (hi : i < h.length) (hj : j < h.length) : M.impl_hitHeap_Swap h (i : Int) (j : Int) = some (swp h i j) := by
  unfold M.impl_hitHeap_Swap
  simp only [gidx_el hi, gidx_el hj, Option.bind_some, Int.toNat_natCast, gidx_set (d := h) (i := i) (j := j) hj]
  rfl

def HP (n : Nat) (h : List Hit) : Prop := ∀ i, 0 < i → i < n → ltH (el h ((i - 1) / 2)) (el h i) = false
theorem heapUp_ok {h0 : List Hit} (hn : h0.length < 1000000000) : ∀ (m : Nat) (h : List Hit) (j : Nat), j = m → j < h0.length → PermR 0 h0.length h0 h →
    (∀ i, 0 < i → i < h0.length → i ≠ j → ltH (el h ((i - 1) / 2)) (el h i) = false) → (∀ i, 0 < i → i < h0.length → 0 < j → (i - 1) / 2 = j → ltH (el h ((j - 1) / 2)) (el h i) = false) →
    ∃ h', M.container_heap_up__impl_hitHeap h (j : Int) = some h' ∧ PermR 0 h0.length h0 h' ∧ HP h0.length h' := by
  intro m
  induction m using Nat.strongRecOn with
  | _ m ih =>
    intro h j hjm hj hP h1 h2
    have hlen := hP.len
    by_cases hj0 : j = 0
    · subst hj0
      unfold M.container_heap_up__impl_hitHeap
      rw [loopM_eq]
      have e : (w64 ((w64 (((0 : Nat) : Int) - 1)).tdiv 2) == ((0 : Nat) : Int)) = true := rfl
      simp only [e, cond_true, Option.bind_some, selim]
      exact ⟨h, rfl, hP, fun i hi1 hi2 => h1 i hi1 hi2 (by omega)⟩
    · have ep : w64 ((w64 ((j : Int) - 1)).tdiv 2) = (((j - 1) / 2 : Nat) : Int) := by
        rw [w64_pred (by omega) (by omega), Int.tdiv_eq_ediv_of_nonneg (by omega), w64_id (by omega) (by omega)]; omega
      have ene : ((((j - 1) / 2 : Nat) : Int) == (j : Int)) = false := beq_eq_false_iff_ne.2 (by omega)
      have hlp : (j - 1) / 2 < h.length := by omega
      cases hlt : ltH (el h ((j - 1) / 2)) (el h j) with
      | false =>
        unfold M.container_heap_up__impl_hitHeap
        rw [loopM_eq]
        simp only [ep, ene, cond_false, less_ok (h := h) (i := j) (j := (j - 1) / 2) (by omega) hlp, Option.bind_some, hlt, Bool.not_false, cond_true, selim]
        refine ⟨h, rfl, hP, fun i hi1 hi2 => ?_⟩
        by_cases hij : i = j
        · subst hij; exact hlt
        · exact h1 i hi1 hi2 hij
      | true =>
        have sw : ∀ k, el (swp h ((j - 1) / 2) j) k = if k = j then el h ((j - 1) / 2) else if k = (j - 1) / 2 then el h j else el h k := fun k => el_swp hlp (by omega)
        have hstep : M.container_heap_up__impl_hitHeap h (j : Int) = M.container_heap_up__impl_hitHeap (swp h ((j - 1) / 2) j) (((j - 1) / 2 : Nat) : Int) := by
          conv => lhs; unfold M.container_heap_up__impl_hitHeap
          rw [loopM_eq]
          simp only [ep, ene, cond_false, less_ok (h := h) (i := j) (j := (j - 1) / 2) (by omega) hlp, Option.bind_some, hlt, Bool.not_true, cond_false, swap_ok (h := h) (i := (j - 1) / 2) (j := j) hlp (by omega), selim]
          rfl
        rw [hstep]
        have asy := linH.asymm trivial trivial hlt
        refine ih ((j - 1) / 2) (by omega) _ _ rfl (by omega) (hP.trans (PermR.swp (by omega) (by omega) (by omega) (by omega) (by omega))) ?_ ?_
        · intro i hi1 hi2 hip
          rw [sw, sw]
          by_cases hij : i = j
          · subst hij
            rw [if_pos rfl, if_neg (by omega), if_pos rfl]
            exact asy
          · rw [if_neg hij, if_neg hip]
            by_cases hpj : (i - 1) / 2 = j
            · rw [if_pos hpj]
              exact h2 i hi1 hi2 (by omega) hpj
            · rw [if_neg hpj]
              by_cases hpp : (i - 1) / 2 = (j - 1) / 2
              · rw [if_pos hpp]
                have := h1 i hi1 hi2 hij
                rw [hpp] at this
                exact linH.ntrans trivial trivial trivial asy this
              · rw [if_neg hpp]; exact h1 i hi1 hi2 hij
        · intro i hi1 hi2 hp0 hpi
          have hpar := h1 ((j - 1) / 2) hp0 (by omega) (by omega)
          rw [sw, sw, if_neg (by omega), if_neg (by omega)]
          by_cases hij : i = j
          · subst hij; rw [if_pos rfl]; exact hpar
          · rw [if_neg hij, if_neg (by omega)]
            have := h1 i hi1 hi2 hij
            rw [hpi] at this
            exact linH.ntrans trivial trivial trivial hpar this
theorem push_ok {h : List Hit} (hn : h.length < 1000000) (hh : HP h.length h) (x : Hit) : ∃ h', M.container_heap_Push__impl_hitHeap__impl_Hit h (x.1, x.2) = some h' ∧ h'.Perm (x :: h) ∧ HP h'.length h' := by
  unfold M.container_heap_Push__impl_hitHeap__impl_Hit M.impl_hitHeap_Push__impl_Hit M.impl_hitHeap_Len
  rw [gapp_ok (by simp; omega)]
  have hl : (h ++ [(x.1, x.2)]).length = h.length + 1 := by simp
  have e : w64 (((h ++ [(x.1, x.2)]).length : Int) - 1) = (h.length : Int) := by rw [hl, w64_id (by omega) (by omega)]; omega
  simp only [Option.bind_some, e]
  have ea : ∀ k, k < h.length → el (h ++ [(x.1, x.2)]) k = el h k := fun k hk => by
    rw [el_lt (by omega), el_lt hk, List.getElem_append_left hk]
  obtain ⟨h', h1, h2, h3⟩ := heapUp_ok (h0 := h ++ [(x.1, x.2)]) (by omega) h.length _ h.length rfl (by omega) (PermR.refl _)
    (fun i hi1 hi2 hne => by rw [ea _ (by omega), ea _ (by omega)]; exact hh i hi1 (by omega)) (fun i hi1 hi2 _ hpi => by omega)
  rw [h1]
  refine ⟨h', rfl, h2.perm.trans ?_, by rw [h2.len]; exact h3⟩
  exact List.perm_append_comm (l₁ := h) (l₂ := [x])
theorem HP.top {n : Nat} {h : List Hit} (hh : HP n h) : ∀ i, i < n → ltH (el h 0) (el h i) = false := by
  intro i
  induction i using Nat.strongRecOn with
  | _ i ih =>
    intro hi
    by_cases h0 : i = 0
    · subst h0; exact linH.irrefl _ trivial
    · exact linH.ntrans trivial trivial trivial (ih ((i - 1) / 2) (by omega) (by omega)) (hh i (by omega) hi)
theorem heapDown_ok {h0 : List Hit} {n : Nat} (hn : h0.length < 1000000) (hnl : n ≤ h0.length) : ∃ r, M.container_heap_down__impl_hitHeap h0 0 (n : Int) = some r ∧
    ((∀ k, 0 < k → k < n → (k - 1) / 2 ≠ 0 → ltH (el h0 ((k - 1) / 2)) (el h0 k) = false) → PermR 0 n h0 r.2 ∧ HP n r.2) := by
  unfold M.container_heap_down__impl_hitHeap
  refine loop_ex (fun s => ∃ (h : List Hit) (i : Nat), s = (h, (i : Int)) ∧ i ≤ h0.length ∧ h.length = h0.length ∧ ((∀ k, 0 < k → k < n → (k - 1) / 2 ≠ 0 → ltH (el h0 ((k - 1) / 2)) (el h0 k) = false) → PermR 0 n h0 h ∧
      (∀ k, 0 < k → k < n → (k - 1) / 2 ≠ i → ltH (el h ((k - 1) / 2)) (el h k) = false) ∧ (∀ k, 0 < k → k < n → 0 < i → (k - 1) / 2 = i → ltH (el h ((i - 1) / 2)) (el h k) = false))) (fun s => ((h0.length : Int) - s.2).toNat)
    (fun r => (∀ k, 0 < k → k < n → (k - 1) / 2 ≠ 0 → ltH (el h0 ((k - 1) / 2)) (el h0 k) = false) → PermR 0 n h0 r.1 ∧ HP n r.1) ?_
    ⟨h0, 0, rfl, by omega, rfl, fun hh => ⟨PermR.refl _, fun k h1 h2 h3 => hh k h1 h2 h3, fun k _ _ h => absurd h (Nat.lt_irrefl _)⟩⟩ (fun r hr => ⟨_, rfl, hr⟩)
  rintro _ ⟨h, i, rfl, hi, hlen, hJ⟩
  have e1 : w64 ((w64 (2 * (i : Int))) + 1) = ((2 * i + 1 : Nat) : Int) := by rw [w64_id (n := 2 * (i : Int)) (by omega) (by omega), w64_id (by omega) (by omega)]; omega
  have e2 : w64 (((2 * i + 1 : Nat) : Int) + 1) = ((2 * i + 2 : Nat) : Int) := by rw [w64_id (by omega) (by omega)]; omega
  simp only [e1, e2]
  by_cases hc : n ≤ 2 * i + 1
  · right
    have e3 : decide ((n : Int) ≤ ((2 * i + 1 : Nat) : Int)) = true := decide_eq_true (by omega)
    refine ⟨(h, (i : Int)), by simp only [e3, cond_true, Option.bind_some], fun hh => ?_⟩
    obtain ⟨j1, j2, j3⟩ := hJ hh
    exact ⟨j1, fun k k1 k2 => j2 k k1 k2 (by omega)⟩
  · have e3 : decide ((n : Int) ≤ ((2 * i + 1 : Nat) : Int)) = false := decide_eq_false (by omega)
    have e4 : decide (((2 * i + 1 : Nat) : Int) < 0) = false := decide_eq_false (by omega)
    -- the greater child
    obtain ⟨j, hj1, hj2, hj3, hj4⟩ : ∃ j : Nat, (Option.bind ((bif decide (((2 * i + 2 : Nat) : Int) < (n : Int)) then (M.impl_hitHeap_Less h ((2 * i + 2 : Nat) : Int) ((2 * i + 1 : Nat) : Int)).bind fun r12 => some r12 else some false)) fun o10 => (bif o10 then some ((2 * i + 2 : Nat) : Int) else some ((2 * i + 1 : Nat) : Int))) = some (j : Int) ∧ (j - 1) / 2 = i ∧ (0 < j ∧ j < n) ∧ (∀ k, 0 < k → k < n → (k - 1) / 2 = i → ltH (el h j) (el h k) = false) := by
      by_cases hc2 : 2 * i + 2 < n
      · have e5 : decide (((2 * i + 2 : Nat) : Int) < (n : Int)) = true := decide_eq_true (by omega)
        simp only [e5, cond_true, less_ok (h := h) (i := 2 * i + 2) (j := 2 * i + 1) (by omega) (by omega), Option.bind_some]
        cases hlt : ltH (el h (2 * i + 1)) (el h (2 * i + 2)) with
        | true =>
          refine ⟨2 * i + 2, rfl, by omega, by omega, fun k k1 k2 k3 => ?_⟩
          rcases (show k = 2 * i + 1 ∨ k = 2 * i + 2 by omega) with rfl | rfl
          · exact linH.asymm trivial trivial hlt
          · exact linH.irrefl _ trivial
        | false =>
          refine ⟨2 * i + 1, rfl, by omega, by omega, fun k k1 k2 k3 => ?_⟩
          rcases (show k = 2 * i + 1 ∨ k = 2 * i + 2 by omega) with rfl | rfl
          · exact linH.irrefl _ trivial
          · exact hlt
      · have e5 : decide (((2 * i + 2 : Nat) : Int) < (n : Int)) = false := decide_eq_false (by omega)
        simp only [e5, cond_false, Option.bind_some]
        refine ⟨2 * i + 1, rfl, by omega, by omega, fun k k1 k2 k3 => ?_⟩
        have : k = 2 * i + 1 := by omega
        subst this; exact linH.irrefl _ trivial
    have hrw : ∀ {β : Type} (g : Int → Option β), (Option.bind ((bif decide (((2 * i + 2 : Nat) : Int) < (n : Int)) then (M.impl_hitHeap_Less h ((2 * i + 2 : Nat) : Int) ((2 * i + 1 : Nat) : Int)).bind fun r12 => some r12 else some false)) fun o10 => Option.bind (bif o10 then some ((2 * i + 2 : Nat) : Int) else some ((2 * i + 1 : Nat) : Int)) g) = g (j : Int) := by
      intro β g
      rw [← Option.bind_assoc, hj1]; rfl
    simp only [e3, cond_false, e4, Option.bind_some]
    rw [hrw]
    simp only [less_ok (h := h) (i := j) (j := i) (by omega) (by omega), Option.bind_some]
    cases hlt : ltH (el h i) (el h j) with
    | false =>
      right
      refine ⟨(h, (i : Int)), by simp only [Bool.not_false, cond_true], fun hh => ?_⟩
      obtain ⟨j1, j2, j3⟩ := hJ hh
      refine ⟨j1, fun k k1 k2 => ?_⟩
      by_cases hk : (k - 1) / 2 = i
      · rw [hk]; exact linH.ntrans trivial trivial trivial hlt (hj4 k k1 k2 hk)
      · exact j2 k k1 k2 hk
    | true =>
      left
      have sw : ∀ k, el (swp h i j) k = if k = j then el h i else if k = i then el h j else el h k := fun k => el_swp (by omega) (by omega)
      refine ⟨(swp h i j, (j : Int)), by simp only [Bool.not_true, cond_false, swap_ok (h := h) (i := i) (j := j) (by omega) (by omega), Option.bind_some], ⟨swp h i j, j, rfl, by omega, by rw [swp_len]; exact hlen, fun hh => ?_⟩, by simp only; omega⟩
      obtain ⟨j1, j2, j3⟩ := hJ hh
      have asy := linH.asymm trivial trivial hlt
      refine ⟨j1.trans (PermR.swp (by omega) (by omega) (by omega) (by omega) (by omega)), fun k k1 k2 k3 => ?_, fun k k1 k2 k3 k4 => ?_⟩
      · rw [sw, sw, if_neg k3]
        by_cases hkj : k = j
        · subst hkj
          rw [if_pos rfl, if_pos hj2]; exact asy
        · rw [if_neg hkj]
          by_cases hki : k = i
          · subst hki
            rw [if_pos rfl, if_neg (by omega)]
            exact j3 j (by omega) (by omega) (by omega) hj2
          · rw [if_neg hki]
            by_cases hp : (k - 1) / 2 = i
            · rw [if_pos hp]; exact hj4 k k1 k2 hp
            · rw [if_neg hp]; exact j2 k k1 k2 hp
      · rw [sw, sw, if_neg (by omega), if_pos hj2, if_neg (by omega), if_neg (by omega)]
        have := j2 k k1 k2 (by omega)
        rw [k4] at this; exact this
end Go.Vs

namespace Go.Vs

def insH (x : Hit) : List Hit → List Hit
  | [] => [x]
  | y :: r => if ltH x y then x :: y :: r else y :: insH x r
def AscH (l : List Hit) : Prop := l.Pairwise fun x y => ltH y x = false
theorem insH_perm (x : Hit) (l : List Hit) : (insH x l).Perm (x :: l) := by
  induction l with
  | nil => exact List.Perm.refl _
  | cons y r ih =>
    unfold insH
    split
    · exact List.Perm.refl _
    · exact (List.Perm.cons y ih).trans (List.Perm.swap x y r)
theorem insH_asc {x : Hit} {l : List Hit} (h : AscH l) : AscH (insH x l) := by
  induction l with
  | nil => exact List.pairwise_singleton _ _
  | cons y r ih =>
    obtain ⟨h1, h2⟩ := List.pairwise_cons.1 h
    unfold insH
    split
    · rename_i hlt
      refine List.pairwise_cons.2 ⟨fun z hz => ?_, h⟩
      rcases List.mem_cons.1 hz with rfl | hz
      · exact linH.asymm trivial trivial hlt
      · exact linH.ntrans trivial trivial trivial (h1 z hz) (linH.asymm trivial trivial hlt)
    · rename_i hlt
      refine List.pairwise_cons.2 ⟨fun z hz => ?_, ih h2⟩
      rcases List.mem_cons.1 ((insH_perm x r).mem_iff.1 hz) with rfl | hz
      · simpa using hlt
      · exact h1 z hz
theorem ltH_antisymm {x y : Hit} (h1 : ltH x y = false) (h2 : ltH y x = false) : x = y := by
  rcases Classical.em (x = y) with h | h
  · exact h
  · rcases linH.total x y trivial trivial h with h' | h'
    · rw [h1] at h'; cases h'
    · rw [h2] at h'; cases h'
theorem asc_uniq {l m : List Hit} (hl : AscH l) (hm : AscH m) (h : l.Perm m) : l = m :=
  List.Perm.eq_of_pairwise (le := fun x y => ltH y x = false) (fun _ _ _ _ h1 h2 => ltH_antisymm h2 h1) hl hm h
theorem insH_len (x : Hit) (l : List Hit) : (insH x l).length = l.length + 1 := by rw [(insH_perm x l).length_eq]; rfl
theorem insH_take (x : Hit) : ∀ (k : Nat) (l : List Hit), (insH x (l.take k)).take k = (insH x l).take k
  | 0, l => by simp
  | k + 1, [] => by simp
  | k + 1, y :: r => by
    rw [List.take_succ_cons]
    unfold insH
    split
    · rw [List.take_succ_cons, List.take_succ_cons]
      cases k with
      | zero => simp
      | succ k => simp [List.take_take]
    · rw [List.take_succ_cons, List.take_succ_cons, insH_take x k r]
def isort (l : List Hit) : List Hit := l.foldl (fun S x => insH x S) []
theorem isort_spec (l : List Hit) : AscH (isort l) ∧ (isort l).Perm l := by
  have key : ∀ (l S : List Hit), AscH S → AscH (l.foldl (fun S x => insH x S) S) ∧ (l.foldl (fun S x => insH x S) S).Perm (S ++ l) := by
    intro l
    induction l with
    | nil => intro S h; exact ⟨h, by simp⟩
    | cons x r ih =>
      intro S h
      obtain ⟨h1, h2⟩ := ih (insH x S) (insH_asc h)
      refine ⟨h1, h2.trans ?_⟩
      have := List.Perm.append_right r (insH_perm x S)
      exact this.trans (List.perm_middle.symm)
  exact key l [] List.Pairwise.nil
theorem isort_snoc (l : List Hit) (x : Hit) : isort (l ++ [x]) = insH x (isort l) := by simp [isort]
theorem isort_len (l : List Hit) : (isort l).length = l.length := (isort_spec l).2.length_eq
theorem isort_uniq {l m : List Hit} (hm : AscH m) (h : m.Perm l) : isort l = m := asc_uniq (isort_spec l).1 hm ((isort_spec l).2.trans h.symm)
def topH (k : Nat) (l : List Hit) : List Hit := (isort l).take k
theorem topH_snoc (k : Nat) (l : List Hit) (x : Hit) : topH k (l ++ [x]) = (insH x (topH k l)).take k := by
  unfold topH; rw [isort_snoc, insH_take]
theorem topH_asc (k : Nat) (l : List Hit) : AscH (topH k l) := (isort_spec l).1.sublist (List.take_sublist _ _)
theorem topH_len (k : Nat) (l : List Hit) : (topH k l).length = min k l.length := by simp [topH, isort_len]
theorem topH_sub (k : Nat) (l : List Hit) : ∀ x ∈ topH k l, x ∈ l := fun x hx => (isort_spec l).2.mem_iff.1 (List.mem_of_mem_take hx)

/-! ## What the heap keeps -/
theorem pop_ok {h : List Hit} (hn : h.length < 1000000) (h1 : 0 < h.length) (hh : HP h.length h) : ∃ x h', M.container_heap_Pop__impl_hitHeap h = some (x, h') ∧ (h' ++ [x]).Perm h ∧ HP h'.length h' ∧ ∀ y ∈ h, ltH x y = false := by
  unfold M.container_heap_Pop__impl_hitHeap M.impl_hitHeap_Len
  have el1 : w64 ((h.length : Int) - 1) = ((h.length - 1 : Nat) : Int) := w64_pred h1 (by omega)
  have e0 : (0 : Int) = ((0 : Nat) : Int) := rfl
  simp only [Option.bind_some, el1]
  rw [e0, swap_ok h1 (by omega)]
  simp only [Option.bind_some]
  have hs : (swp h 0 (h.length - 1)).length = h.length := swp_len
  obtain ⟨r, hr, hJ⟩ := heapDown_ok (h0 := swp h 0 (h.length - 1)) (n := h.length - 1) (by omega) (by omega)
  have sw : ∀ k, el (swp h 0 (h.length - 1)) k = if k = h.length - 1 then el h 0 else if k = 0 then el h (h.length - 1) else el h k := fun k => el_swp h1 (by omega)
  obtain ⟨j1, j2⟩ := hJ (fun k k1 k2 k3 => by
    rw [sw, sw, if_neg (by omega), if_neg k3, if_neg (by omega), if_neg (by omega)]
    exact hh k k1 (by omega))
  rw [← e0, hr]
  simp only [Option.bind_some]
  unfold M.impl_hitHeap_Pop
  have hl2 : r.2.length = h.length := by rw [j1.len, hs]
  have el2 : w64 ((r.2.length : Int) - 1) = ((h.length - 1 : Nat) : Int) := by rw [hl2]; exact el1
  have hlast : el r.2 (h.length - 1) = el h 0 := by rw [j1.out _ (by omega), sw, if_pos rfl]
  rw [el2, gidx_el (by omega), gslice_ok (by omega) (by omega) (by omega)]
  simp only [Option.bind_some, Int.toNat_natCast, hlast, Int.toNat_zero, List.drop_zero]
  refine ⟨_, _, rfl, ?_, ?_, ?_⟩
  · have : r.2.take (h.length - 1) ++ [el h 0] = r.2 := by
      have := List.take_succ_eq_append_getElem (l := r.2) (i := h.length - 1) (by omega)
      rw [← el_lt (by omega), hlast, show h.length - 1 + 1 = r.2.length by omega, List.take_length] at this
      exact this.symm
    show (r.2.take (h.length - 1) ++ [el h 0]).Perm h
    rw [this]
    exact j1.perm.trans (swp_perm h1 (by omega))
  · have ht : (r.2.take (h.length - 1)).length = h.length - 1 := by simp; omega
    rw [ht]
    intro i i1 i2
    have e : ∀ k, k < h.length - 1 → el (r.2.take (h.length - 1)) k = el r.2 k := fun k hk => by
      rw [el_lt (by omega), el_lt (by omega), List.getElem_take]
    rw [e _ (by omega), e _ (by omega)]
    exact j2 i i1 i2
  · intro y hy
    obtain ⟨i, hi, rfl⟩ := List.mem_iff_getElem.1 hy
    rw [← el_lt hi]
    exact hh.top i hi
theorem offer_ok {T kept : List Hit} {k : Nat} (hk : k ≤ 1000) (hT : AscH T) (hTk : T.length ≤ k) (hh : HP kept.length kept) (hp : kept.Perm T) (x : Hit) :
    ∃ kept', M.impl_nearestHits_offer ((k : Int), kept) (x.1, x.2) = some ((k : Int), kept') ∧ HP kept'.length kept' ∧ kept'.Perm ((insH x T).take k) := by
  unfold M.impl_nearestHits_offer
  have hkl := hp.length_eq
  obtain ⟨k1, h1, h2, h3⟩ := push_ok (h := kept) (by omega) hh x
  simp only [h1, Option.bind_some]
  have hl1 : k1.length = T.length + 1 := by rw [h2.length_eq]; simp [hkl]
  have hp1 : k1.Perm (insH x T) := h2.trans ((List.Perm.cons x hp).trans (insH_perm x T).symm)
  have hil := insH_len x T
  by_cases hc : k < k1.length
  · have e1 : decide ((k : Int) < (k1.length : Int)) = true := decide_eq_true (by omega)
    obtain ⟨mx, k2, g1, g2, g3, g4⟩ := pop_ok (h := k1) (by omega) (by omega) h3
    simp only [e1, cond_true, g1, Option.bind_some]
    refine ⟨k2, rfl, g3, ?_⟩
    have hI := insH_asc (x := x) hT
    have hne : insH x T ≠ [] := by intro e; rw [e] at hil; simp at hil
    have hdl : insH x T = (insH x T).take k ++ [(insH x T).getLast hne] := by
      have h := List.dropLast_concat_getLast hne
      rw [List.dropLast_eq_take, show (insH x T).length - 1 = k by omega] at h
      exact h.symm
    have hmx : mx = (insH x T).getLast hne := by
      refine ltH_antisymm (g4 _ (hp1.mem_iff.2 (List.getLast_mem hne))) ?_
      have hmem : mx ∈ insH x T := hp1.mem_iff.1 (g2.mem_iff.1 (by simp))
      rw [hdl] at hmem hI
      rcases List.mem_append.1 hmem with h | h
      · exact (List.pairwise_append.1 hI).2.2 _ h _ (by simp)
      · rw [List.mem_singleton.1 h]; exact linH.irrefl _ trivial
    have := (g2.trans hp1)
    rw [hdl, ← hmx] at this
    exact (List.perm_append_right_iff _).1 this
  · have e1 : decide ((k : Int) < (k1.length : Int)) = false := decide_eq_false (by omega)
    simp only [e1, cond_false]
    refine ⟨k1, rfl, h3, ?_⟩
    rw [List.take_of_length_le (by omega)]; exact hp1
theorem inOrder_ok {T kept : List Hit} (hT : AscH T) (hp : kept.Perm T) (hnd : T.Nodup) (hl : T.length ≤ 16) (k : Int) : M.impl_nearestHits_inOrder (k, kept) = some T := by
  unfold M.impl_nearestHits_inOrder M.slices_SortedFunc_impl_Hit__slices_Values_impl_hitHeap_impl_Hit_1__impl_compareHits M.slices_Collect_impl_Hit__slices_Values_impl_hitHeap_impl_Hit_1 M.slices_AppendSeq_impl_Hit_impl_Hit__slices_Values_impl_hitHeap_impl_Hit_1 M.slices_Values_impl_hitHeap_impl_Hit M.slices_SortFunc_impl_Hit_impl_Hit__impl_compareHits
  have hkl := hp.length_eq
  have hcoll : M.coll kept = some kept := by unfold M.coll; rw [if_pos (by omega)]
  simp only [Option.bind_some, hcoll]
  obtain ⟨d', h1, h2, h3⟩ := sortD_ok (cmp := cmpHits) (lt := ltH) (xs := kept) (by omega) (fun x _ y _ => cmpHits_ok x y trivial trivial) (fun x _ => linH.irrefl x trivial) (fun x _ y _ z _ => linH.trans x y z trivial trivial trivial) (fun x _ y _ => linH.total x y trivial trivial)
  rw [h1]
  simp only [Option.bind_some]
  exact congrArg some (asc_uniq h3 hT (h2.trans hp))

/-! ## The searches -/
theorem nearer_ok (x y : Hit) : M.spec_nearer (x.1, x.2) (y.1, y.2) = some (ltH x y) := by
  unfold M.spec_nearer ltH
  by_cases h1 : x.2 < y.2
  · simp [h1]
  · by_cases h2 : x.2 = y.2
    · simp [h2]
    · have h3 : (x.2 == y.2) = false := beq_eq_false_iff_ne.2 h2
      simp [h1, h2, h3]
def cmpT : Hit → Hit → Option Int := fun x y => some (if ltH x y then -1 else 0)
theorem cmpT_ok : CmpOk cmpT ltH (fun _ => True) := fun x y _ _ => ⟨_, rfl, by cases h : ltH x y <;> simp⟩
theorem addHit_ok {S : List Hit} {k : Nat} (hS : AscH S) (hl : S.length ≤ 1000) (hk : k ≤ 1000) (x : Hit) : M.spec_addHit S (x.1, x.2) (k : Int) = some ((insH x S).take k) := by
  unfold M.spec_addHit
  rw [gapp_ok (by simp; omega)]
  simp only [Option.bind_some, List.nil_append]
  rw [gapp_ok (by simp; omega)]
  simp only [Option.bind_some]
  have hlen : (S ++ [(x.1, x.2)]).length = S.length + 1 := by simp
  have e1 : w64 (((S ++ [(x.1, x.2)]).length : Int) - 1) = (S.length : Int) := by rw [hlen, w64_id (by omega) (by omega)]; omega
  have hf : (fun (s17 : (List (Int × Int)) × (Int)) => Option.bind ((bif decide (0 < s17.2) then
  (gidx s17.1 s17.2).bind fun x22 =>
  (gidx s17.1 (w64 (s17.2 - 1))).bind fun x29 =>
  (M.spec_nearer (x22.1, x22.2) (x29.1, x29.2)).bind fun r37 =>
  some r37
 else
  some false)) fun o20 =>
  (bif o20 then
  (gidx s17.1 s17.2).bind fun x44 =>
  (gidx s17.1 (w64 (s17.2 - 1))).bind fun x54 =>
  (gidx s17.1 s17.2).bind fun x61 =>
  (gidx (s17.1.set s17.2.toNat (x54.1, x54.2)) (w64 (s17.2 - 1))).bind fun x68 =>
  some (.inl (((s17.1.set s17.2.toNat (x54.1, x54.2)).set (w64 (s17.2 - 1)).toNat (x44.1, x44.2)), w64 (s17.2 - 1)))
 else
  some (.inr s17.1) : Option ((List Hit × Int) ⊕ List Hit))) = (fun (s7 : (List Hit) × (Int)) => Option.bind ((bif decide (((0 : Nat) : Int) < s7.2) then
  (gidx s7.1 s7.2).bind fun x12 =>
  (gidx s7.1 (w64 (s7.2 - 1))).bind fun x19 =>
  (cmpT x12 x19).bind fun r27 =>
  some (decide (r27 < 0))
 else
  some false)) fun o10 =>
  (bif o10 then
  (gidx s7.1 (w64 (s7.2 - 1))).bind fun x34 =>
  (gidx s7.1 s7.2).bind fun x41 =>
  (gidx s7.1 s7.2).bind fun x48 =>
  (gidx (s7.1.set s7.2.toNat x34) (w64 (s7.2 - 1))).bind fun x54 =>
  some (.inl (((s7.1.set s7.2.toNat x34).set (w64 (s7.2 - 1)).toNat x41), w64 (s7.2 - 1)))
 else
  some (.inr s7.1))) := by
    funext s
    have ec : ∀ a b : Hit, ((M.spec_nearer (a.1, a.2) (b.1, b.2)).bind fun r37 => some r37) = ((cmpT a b).bind fun r27 => some (decide (r27 < 0))) := by
      intro a b
      rw [nearer_ok, cmp_of cmpT_ok trivial trivial]; rfl
    have ec2 : ∀ (a : Option Hit) (b : Option Hit) (c : Option Hit) (g : Hit → Option Hit) (F : Hit → Hit → Option ((List Hit × Int) ⊕ List Hit)), (a.bind fun x44 => b.bind fun x54 => c.bind fun x61 => (g x54).bind fun _ => F x54 x44) = (b.bind fun x34 => a.bind fun x41 => c.bind fun x48 => (g x34).bind fun _ => F x34 x41) := by
      intro a b c g F
      cases a <;> cases b <;> rfl
    simp only [ec, Int.cast_ofNat_Int]
    congr 1
    funext o
    cases o with
    | false => rfl
    | true => exact ec2 (gidx s.1 s.2) (gidx s.1 (w64 (s.2 - 1))) (gidx s.1 s.2) (fun y => gidx (s.1.set s.2.toNat y) (w64 (s.2 - 1))) (fun y z => some (.inl (((s.1.set s.2.toNat y).set (w64 (s.2 - 1)).toNat z), w64 (s.2 - 1))))
  rw [hf, e1]
  have ea : ∀ i, i < S.length → el (S ++ [(x.1, x.2)]) i = el S i := fun i hi => by rw [el_lt (by omega), el_lt hi, List.getElem_append_left hi]
  obtain ⟨d', h1, h2, h3⟩ := ins_inner cmpT_ok linH (a := 0) (i := S.length) (d0 := S ++ [(x.1, x.2)]) (by omega) (by omega) (fun _ _ => trivial) (S ++ [(x.1, x.2)]) S.length (Nat.zero_le _) (Nat.le_refl _) (PermR.refl _)
    (fun u v _ huv hv hu' hv' => by
      rw [ea u (by omega), ea v (by omega), el_lt (by omega), el_lt (by omega)]
      exact List.pairwise_iff_getElem.1 hS u v _ _ huv) (fun y h h' => by omega)
  rw [h1]
  have hdl : d'.length = S.length + 1 := by rw [h2.len, hlen]
  have hasc : AscH d' := by
    refine List.pairwise_iff_getElem.2 fun i j hi hj hij => ?_
    have := h3 i j (Nat.zero_le _) hij (by omega)
    rwa [el_lt hi, el_lt hj] at this
  have hd : d' = insH x S := asc_uniq hasc (insH_asc hS) (h2.perm.trans ((List.perm_append_comm (l₁ := S) (l₂ := [x])).trans (insH_perm x S).symm))
  have hil := insH_len x S
  simp only [Option.bind_some]
  rw [hd, gslice_ok (by omega) (by omega) (by omega)]
  simp only [Option.bind_some, Int.toNat_zero, List.drop_zero, Option.some.injEq]
  by_cases hc : k ≤ (insH x S).length
  · rw [show (min (k : Int) ((insH x S).length : Int)).toNat = k by omega]
  · rw [show (min (k : Int) ((insH x S).length : Int)).toNat = (insH x S).length by omega, List.take_length, List.take_of_length_le (by omega)]

def hitsOf (l : List Item) (kind : Int) (at_ : List Int) : List Hit := l.map fun x => (x.1, dist kind x.2.1 at_)
theorem hitsOf_len {l : List Item} {kind : Int} {at_ : List Int} : (hitsOf l kind at_).length = l.length := by simp [hitsOf]
theorem hitsOf_nodup {l : List Item} {kind : Int} {at_ : List Int} (hp : l.Pairwise (fun x y => x.1 < y.1)) : (hitsOf l kind at_).Nodup := by
  unfold hitsOf List.Nodup
  rw [List.pairwise_map]
  refine hp.imp fun h e => ?_
  have := congrArg Prod.fst e
  simp only at this; omega
theorem topH_nodup {k : Nat} {l : List Hit} (h : l.Nodup) : (topH k l).Nodup := by
  unfold topH
  exact (List.take_sublist _ _).nodup ((isort_spec l).2.nodup_iff.2 h)
theorem hitsOf_snoc {l : List Item} {kind : Int} {at_ : List Int} {i : Nat} (hi : i < l.length) : hitsOf (l.take (i + 1)) kind at_ = hitsOf (l.take i) kind at_ ++ [(l[i].1, dist kind l[i].2.1 at_)] := by
  unfold hitsOf
  rw [List.take_succ_eq_append_getElem hi, List.map_append]; rfl
def okQuery (l : List Item) (kind : Int) (at_ : List Int) : Bool := okStore l && isKind kind && isVec at_
theorem okQuery_iff {l : List Item} {kind : Int} {at_ : List Int} : okQuery l kind at_ = true ↔ okStore l = true ∧ isKind kind = true ∧ isVec at_ = true := by simp [okQuery, and_assoc]
theorem specAmong_ok {l : List Item} {kind : Int} {at_ : List Int} {k : Nat} (hvec : ∀ x ∈ l, isVec x.2.1 = true) (hkind : isKind kind = true) (hv : isVec at_ = true) (hlen : l.length ≤ 1000) (hk : k ≤ 1000) : M.spec_nearest l kind at_ (k : Int) = some (topH k (hitsOf l kind at_)) := by
  unfold M.spec_nearest
  refine fold_bind (xs := l) (fun (s : List Hit) i => (s, i)) (fun s x => (insH (x.1, dist kind x.2.1 at_) s).take k) (fun i s => s = topH k (hitsOf (l.take i) kind at_)) (fun s => s) (s0 := []) (by simp [hitsOf, topH, isort]) ?_ ?_ ?_
  · rintro s i hi rfl
    have e1 : decide ((i : Int) < (l.length : Int)) = true := decide_eq_true (by omega)
    have hx := hvec _ (List.getElem_mem hi)
    have hL := topH_len k (hitsOf (l.take i) kind at_)
    simp only [e1, cond_true, gidx_nat hi, Option.bind_some, specDist_vec hkind hx hv, w64_succ (i := i) (by omega)]
    have := addHit_ok (k := k) (topH_asc k (hitsOf (l.take i) kind at_)) (by rw [hL]; omega) hk (l[i].1, dist kind l[i].2.1 at_)
    simp only at this
    rw [this]
    refine ⟨rfl, ?_⟩
    rw [← topH_snoc, hitsOf_snoc hi]
  · intro s _; simp
  · intro hs
    rw [hs, List.take_length]
theorem inRange_ok (n a b : Int) : M.spec_inRange n a b = some (decide (a ≤ n ∧ n ≤ b)) := by
  unfold M.spec_inRange
  by_cases h : a ≤ n <;> simp [h]
theorem validQuery_ok {l : List Item} {kind : Int} {at_ : List Int} (h : SmallS l) (ha : at_.length < 2000000) : M.spec_validQuery l kind at_ = some (okQuery l kind at_) := by
  unfold M.spec_validQuery okQuery
  simp only [h.specv, specKind_ok, spec_isVec at_ ha, Option.bind_some]
  cases okStore l <;> cases isKind kind <;> simp
theorem count_ok (k : Int) : M.impl_validCount k = some (decide (1 ≤ k ∧ k ≤ 16)) := by
  unfold M.impl_validCount
  by_cases h1 : 1 ≤ k <;> simp [h1]
theorem validSearch_ok {l : List Item} {kind : Int} {at_ : List Int} {k : Int} (h : SmallS l) (ha : at_.length < 2000000) : M.impl_validSearch l kind at_ k = some (decide (okQuery l kind at_ = true ∧ 1 ≤ k ∧ k ≤ 16)) := by
  unfold M.impl_validSearch okQuery
  simp only [h.impl, implKind_ok, impl_valid at_ ha, count_ok, Option.bind_some]
  cases okStore l <;> cases isKind kind <;> cases isVec at_ <;> simp
theorem by_loop {l : List Item} {D : Item → Int} {n : Nat} (hn : n ≤ 1000) {f : ((Int) × (List (Int × Int))) × (Int) → Option ((((Int) × (List (Int × Int))) × (Int)) ⊕ ((Int) × (List (Int × Int))))} (hlen : l.length ≤ 16)
    (hs : ∀ i (h : i < l.length) (kept : List Hit), f (((n : Int), kept), (i : Int)) = (M.impl_nearestHits_offer ((n : Int), kept) (l[i].1, D l[i])).bind fun r => some (.inl ((r.1, r.2), ((i + 1 : Nat) : Int))))
    (he : ∀ kept : List Hit, f (((n : Int), kept), (l.length : Int)) = some (.inr ((n : Int), kept))) :
    ∃ kept', loopM f (((n : Int), []), 0) = some ((n : Int), kept') ∧ kept'.Perm (topH n (l.map fun x => (x.1, D x))) := by
  have key : ∀ m i : Nat, i + m = l.length → ∀ kept : List Hit, HP kept.length kept → kept.Perm (topH n ((l.take i).map fun x => (x.1, D x))) →
      ∃ kept', loopM f (((n : Int), kept), (i : Int)) = some ((n : Int), kept') ∧ kept'.Perm (topH n (l.map fun x => (x.1, D x))) := by
    intro m
    induction m with
    | zero =>
      intro i hi kept hh hp
      have : i = l.length := by omega
      subst this
      rw [List.take_length] at hp
      rw [loopM_eq, he]
      exact ⟨kept, rfl, hp⟩
    | succ m ih =>
      intro i hi kept hh hp
      have hil : i < l.length := by omega
      have hL := topH_len n ((l.take i).map fun x => (x.1, D x))
      obtain ⟨kept', g1, g2, g3⟩ := offer_ok (k := n) hn (topH_asc n ((l.take i).map fun x => (x.1, D x))) (by omega) hh hp (l[i].1, D l[i])
      simp only at g1
      rw [loopM_eq, hs i hil, g1]
      simp only [Option.bind_some, selim]
      refine ih (i + 1) (by omega) kept' g2 ?_
      rw [← topH_snoc] at g3
      rw [List.take_succ_eq_append_getElem hil, List.map_append]; exact g3
  have := key l.length 0 (by omega) [] (fun i h1 h2 => by simp at h2) (by simp [topH, isort])
  rw [show ((0 : Nat) : Int) = 0 from rfl] at this
  exact this
theorem map_nodup {l : List Item} {D : Item → Int} (hp : l.Pairwise (fun x y => x.1 < y.1)) : (l.map fun x => (x.1, D x)).Nodup := by
  unfold List.Nodup
  rw [List.pairwise_map]
  exact hp.imp fun h he => by injection he with h1 h2; omega
theorem implAmong_ok {l : List Item} {kind : Int} {at_ : List Int} {n : Nat} (hvec : ∀ x ∈ l, isVec x.2.1 = true) (hv : isVec at_ = true) (hnd : (hitsOf l kind at_).Nodup) (hlen : l.length ≤ 16) (hn : n ≤ 1000) : M.impl_nearestAmong l kind at_ (n : Int) = some (topH n (hitsOf l kind at_)) := by
  unfold M.impl_nearestAmong M.impl_nearestBy__impl_nearestAmong_1
  obtain ⟨kept', g1, g2⟩ := by_loop (l := l) (D := fun x => dist kind x.2.1 at_) (n := n) hn (f := fun (s5 : ((Int) × (List (Int × Int))) × (Int)) => (bif decide (s5.2 < (l.length : Int)) then
  (gidx l s5.2).bind fun x10 =>
  (M.impl_nearestAmong_1__p3__p24 (x10.1, x10.2.1, x10.2.2) kind at_).bind fun r25 =>
  (M.impl_nearestHits_offer (s5.1.1, s5.1.2) (x10.1, r25)).bind fun r29 =>
  some (.inl ((r29.1, r29.2), w64 (s5.2 + 1)))
 else
  some (.inr (s5.1.1, s5.1.2)))) hlen (fun i hi kept => by
    have e1 : decide ((i : Int) < (l.length : Int)) = true := decide_eq_true (by omega)
    unfold M.impl_nearestAmong_1__p3__p24
    simp only [e1, cond_true, gidx_nat hi, Option.bind_some, implDist_vec (hvec _ (List.getElem_mem hi)) hv, w64_succ (i := i) (by omega)]) (fun kept => by simp)
  rw [g1]
  have hL := topH_len n (hitsOf l kind at_)
  have hl2 := hitsOf_len (l := l) (kind := kind) (at_ := at_)
  simp only [Option.bind_some, inOrder_ok (topH_asc n (hitsOf l kind at_)) g2 (topH_nodup hnd) (by omega)]
end Go.Vs

namespace Go.Vs

end Go.Vs

namespace Go.Vs

end Go.Vs

namespace Go.Vs

end Go.Vs

namespace Go.Vs

def upHits (k : Int) (n : Nat) : List (Int × Int) := (List.range n).map fun i : Nat => (k + 2 * (i : Int), k + 2 * (i : Int) + 1)
theorem upHits_len {k : Int} {n : Nat} : (upHits k n).length = n := by simp [upHits]
theorem upHits_get {k : Int} {n i : Nat} (h : i < (upHits k n).length) : (upHits k n)[i] = (k + 2 * (i : Int), k + 2 * (i : Int) + 1) := by simp [upHits]
theorem gidx_setn {α : Type} {xs : List α} {i : Nat} {e : α} (h : i < xs.length) : gidx (xs.set i e) (i : Int) = some e := by
  unfold gidx
  rw [if_pos (by omega)]
  simp [h]
theorem markHitS_ok {a : List (Int × Int)} {k : Int} (ha : a.length < 2000000) (h0 : 0 ≤ k) (h1 : k ≤ 2000000000000000) : M.laws_markHitS a k = some (k + 2 * (a.length : Int), upHits k a.length) := by
  unfold M.laws_markHitS
  have hloop := loop_run (R := List (Int × Int) × Int) (f := fun (s2 : (List (Int × Int)) × (Int) × (Int)) => (bif decide (s2.2.2 < (s2.1.length : Int)) then
  (gidx s2.1 s2.2.2).bind fun x6 =>
  (gidx (s2.1.set s2.2.2.toNat (s2.2.1, x6.2)) s2.2.2).bind fun x12 =>
  some (.inl (((s2.1.set s2.2.2.toNat (s2.2.1, x6.2)).set s2.2.2.toNat (x12.1, w64 (s2.2.1 + 1))), w64 ((w64 (s2.2.1 + 1)) + 1), w64 (s2.2.2 + 1)))
 else
  some (.inr (s2.1, s2.2.1)))) (r := (upHits k a.length, k + 2 * (a.length : Int))) a.length (fun i => (upHits k i ++ a.drop i, k + 2 * (i : Int), (i : Int))) (by
    intro i hi
    have hl : (upHits k i ++ a.drop i).length = a.length := by rw [List.length_append, upHits_len, List.length_drop]; omega
    have e1 : decide ((i : Int) < ((upHits k i ++ a.drop i).length : Int)) = true := decide_eq_true (by omega)
    have e2 : w64 ((i : Int) + 1) = ((i + 1 : Nat) : Int) := w64_id (by omega) (by omega)
    have e3 : w64 (k + 2 * (i : Int) + 1) = k + 2 * (i : Int) + 1 := w64_id (by omega) (by omega)
    have e4 : w64 (k + 2 * (i : Int) + 1 + 1) = k + 2 * ((i + 1 : Nat) : Int) := by rw [w64_id (by omega) (by omega)]; omega
    have hl' : i < (upHits k i ++ a.drop i).length := by omega
    simp only [e1, cond_true, gidx_nat hl', Option.bind_some, e2, e3, e4, Int.toNat_natCast, gidx_setn hl', List.set_set, Option.some.injEq, Sum.inl.injEq, Prod.mk.injEq, and_true]
    rw [List.set_append_right _ _ (by rw [upHits_len]; omega), upHits_len, Nat.sub_self, List.drop_eq_getElem_cons hi, List.set_cons_zero]
    simp [upHits, List.range_succ]) (by
    have e1 : decide (((a.length : Nat) : Int) < ((upHits k a.length ++ a.drop a.length).length : Int)) = false := decide_eq_false (by rw [List.length_append, upHits_len]; simp)
    simp only [List.drop_length, List.append_nil] at e1 ⊢
    simp only [e1, cond_false])
  simp only [upHits, List.range_zero, List.map_nil, List.nil_append, List.drop_zero, Int.cast_ofNat_Int, Int.mul_zero, Int.add_zero] at hloop
  rw [hloop]; rfl
theorem heldHitS_ok {n : Nat} {k : Int} (ha : n < 2000000) (h0 : 0 ≤ k) (h1 : k ≤ 2000000000000000) : M.laws_heldHitS (upHits k n) k = some (k + 2 * (n : Int)) := by
  unfold M.laws_heldHitS
  have hloop := loop_run (R := Int ⊕ Int) (f := fun (s2 : (Int) × (Int)) => (bif decide (s2.2 < ((upHits k n).length : Int)) then
  (gidx (upHits k n) s2.2).bind fun x5 =>
  (bif x5.1 != s2.1 then
  some (.inr (.inr (-1)))
 else
  (gidx (upHits k n) s2.2).bind fun x12 =>
  (bif x12.2 != (w64 (s2.1 + 1)) then
  some (.inr (.inr (-1)))
 else
  some (.inl (w64 ((w64 (s2.1 + 1)) + 1), w64 (s2.2 + 1)))))
 else
  some (.inr (.inl s2.1)))) (r := .inl (k + 2 * (n : Int))) n (fun i => (k + 2 * (i : Int), (i : Int))) (by
    intro i hi
    have hl : i < (upHits k n).length := by rw [upHits_len]; exact hi
    have e1 : decide ((i : Int) < ((upHits k n).length : Int)) = true := decide_eq_true (by omega)
    have e2 : w64 ((i : Int) + 1) = ((i + 1 : Nat) : Int) := w64_id (by omega) (by omega)
    have e3 : w64 (k + 2 * (i : Int) + 1) = k + 2 * (i : Int) + 1 := w64_id (by omega) (by omega)
    have e4 : w64 (k + 2 * (i : Int) + 1 + 1) = k + 2 * ((i + 1 : Nat) : Int) := by rw [w64_id (by omega) (by omega)]; omega
    simp only [e1, cond_true, gidx_nat hl, upHits_get, Option.bind_some, e2, e3, e4, bne_self_eq_false, cond_false]) (by
    have e1 : decide ((n : Int) < ((upHits k n).length : Int)) = false := decide_eq_false (by rw [upHits_len]; omega)
    simp only [e1, cond_false])
  simp only [Int.cast_ofNat_Int, Int.mul_zero, Int.add_zero] at hloop
  rw [hloop]; rfl
theorem eqHitS_self {a : List (Int × Int)} (h : a.length < 2000000) : M.laws_eqHitS a a = some true := by
  unfold M.laws_eqHitS
  simp only [bne_self_eq_false, cond_false]
  rw [loop_all (xs := a) (P := fun _ => true) (r := false)]
  · simp [selim]
  · intro i hi
    have e1 : decide ((i : Int) < (a.length : Int)) = true := by simpa using hi
    have e2 : w64 ((i : Int) + 1) = (i : Int) + 1 := w64_id (by omega) (by omega)
    simp only [e1, cond_true, gidx_nat hi, Option.bind_some, M.laws_eqHit, bne_self_eq_false, Bool.not_true, cond_false, e2, if_true]
  · simp
end Go.Vs

namespace Go.Vs

end Go.Vs

namespace Go.Vs

end Go.Vs

namespace Go.Vs

structure OkL (l : List Item) : Prop where
  len : l.length ≤ 16
  vec : ∀ x ∈ l, isVec x.2.1 = true
  keys : (l.map (·.1)).Nodup
theorem OkL.inj {l : List Item} (h : OkL l) : ∀ x y, x ∈ l → y ∈ l → x.1 = y.1 → x = y := fun x y hx hy e => by
  obtain ⟨i, hi, rfl⟩ := List.mem_iff_getElem.1 hx
  obtain ⟨j, hj, rfl⟩ := List.mem_iff_getElem.1 hy
  have hpw := List.pairwise_iff_getElem.1 (List.pairwise_map.1 h.keys)
  rcases Nat.lt_trichotomy i j with h | h | h
  · exact absurd e (hpw i j hi hj h)
  · subst h; rfl
  · exact absurd e.symm (hpw j i hj hi h)
theorem OkL.sub {l m : List Item} (h : OkL l) (hs : List.Sublist m l) : OkL m :=
  ⟨Nat.le_trans hs.length_le h.len, fun x hx => h.vec x (hs.subset hx), List.Nodup.sublist (hs.map _) h.keys⟩
theorem OkL.perm {l m : List Item} (h : OkL l) (hp : m.Perm l) : OkL m :=
  ⟨by rw [hp.length_eq]; exact h.len, fun x hx => h.vec x (hp.mem_iff.1 hx), (hp.map (·.1)).nodup_iff.2 h.keys⟩

end Go.Vs

namespace Go.Vs

abbrev Nod := Int × Int × Int × Int
def nodesT : Tr Item → Nat → List Nod
  | .nil, _ => []
  | .node x n l r, a => (x.1, n, (bif l.isNil then -1 else ((a + 1 : Nat) : Int)), (bif r.isNil then -1 else ((a + 1 + (nodesT l (a + 1)).length : Nat) : Int))) :: (nodesT l (a + 1) ++ nodesT r (a + 1 + (nodesT l (a + 1)).length))
def Tr.size : Tr Item → Nat
  | .nil => 0
  | .node _ _ l r => l.size + r.size + 1
theorem nodesT_len : ∀ (t : Tr Item) (a : Nat), (nodesT t a).length = t.size
  | .nil, _ => rfl
  | .node x n l r, a => by simp only [nodesT, List.length_cons, List.length_append, nodesT_len l, nodesT_len r, Tr.size]
end Go.Vs

namespace Go.Vs

end Go.Vs

namespace Go.Vs

end Go.Vs

namespace Go.Vs

end Go.Vs

namespace Go.Vs

def itemsT : Tr Item → List Item
  | .nil => []
  | .node x _ l r => x :: (itemsT l ++ itemsT r)
def Sub (L : List Nod) (t : Tr Item) (a : Nat) : Prop := ∃ pre post, L = pre ++ nodesT t a ++ post ∧ pre.length = a
theorem Sub.left {L : List Nod} {x : Item} {q : Int} {l r : Tr Item} {a : Nat} (h : Sub L (.node x q l r) a) : Sub L l (a + 1) := by
  obtain ⟨pre, post, rfl, rfl⟩ := h
  exact ⟨pre ++ (nodesT (.node x q l r) pre.length).take 1, nodesT r (pre.length + 1 + (nodesT l (pre.length + 1)).length) ++ post, by simp [nodesT], by simp [nodesT]⟩
theorem Sub.right {L : List Nod} {x : Item} {q : Int} {l r : Tr Item} {a : Nat} (h : Sub L (.node x q l r) a) : Sub L r (a + 1 + l.size) := by
  obtain ⟨pre, post, rfl, rfl⟩ := h
  exact ⟨pre ++ (nodesT (.node x q l r) pre.length).take 1 ++ nodesT l (pre.length + 1), post, by simp [nodesT, nodesT_len], by simp [nodesT, nodesT_len]; omega⟩
theorem Sub.get {L : List Nod} {x : Item} {q : Int} {l r : Tr Item} {a : Nat} (h : Sub L (.node x q l r) a) : ∃ hl : a < L.length, L[a] = (x.1, q, (bif l.isNil then -1 else ((a + 1 : Nat) : Int)), (bif r.isNil then -1 else ((a + 1 + l.size : Nat) : Int))) := by
  obtain ⟨pre, post, rfl, rfl⟩ := h
  exact ⟨by simp [nodesT], by simp [nodesT, nodesT_len]⟩
theorem Sub.gidx {L : List Nod} {x : Item} {q : Int} {l r : Tr Item} {a : Nat} (h : Sub L (.node x q l r) a) : Go.Vs.gidx L (a : Int) = some (x.1, q, (bif l.isNil then -1 else ((a + 1 : Nat) : Int)), (bif r.isNil then -1 else ((a + 1 + l.size : Nat) : Int))) := by
  obtain ⟨hl, e⟩ := h.get
  rw [gidx_nat hl, e]
theorem sub_self (t : Tr Item) : Sub (nodesT t 0) t 0 := ⟨[], [], by simp, rfl⟩

end Go.Vs

namespace Go.Vs

def hitV (kd : Int) (v : List Int) (x : Item) : Hit := (x.1, dist kd x.2.1 v)
def hitsV (kd : Int) (v : List Int) (l : List Item) : List Hit := l.map (hitV kd v)
def reachH (k : Nat) (V : List Hit) : Int := if (topH k V).length < k then 1000000 else ((topH k V).getD (k - 1) (0, 0)).2
/-! ## Lists with the same nearest ones -/
def SameT (k : Nat) (U V : List Hit) : Prop := topH k U = topH k V
theorem SameT.refl (k : Nat) (U : List Hit) : SameT k U U := rfl
theorem SameT.trans {k : Nat} {U V W : List Hit} (h : SameT k U V) (g : SameT k V W) : SameT k U W := Eq.trans h g
theorem SameT.symm {k : Nat} {U V : List Hit} (h : SameT k U V) : SameT k V U := Eq.symm h
theorem SameT.perm {k : Nat} {U V : List Hit} (h : U.Perm V) : SameT k U V := by
  show topH k U = topH k V
  unfold topH
  rw [isort_uniq (isort_spec V).1 ((isort_spec V).2.trans h.symm)]
theorem SameT.reach {k : Nat} {U V : List Hit} (h : SameT k U V) : reachH k U = reachH k V := by
  unfold reachH
  rw [h]
/-! ## Trees find the nearest -/
/-! ## At how many nodes they look -/
noncomputable def vis (kd : Int) (v : List Int) (k : Nat) : Tr Item → List Hit → Nat
  | .nil, _ => 0
  | .node x q l r, P =>
    if dist kd x.2.1 v ≤ q then
      vis kd v k l (P ++ [hitV kd v x]) + 1 + (if q - dist kd x.2.1 v ≤ reachH k (P ++ [hitV kd v x] ++ hitsV kd v (itemsT l)) then vis kd v k r (P ++ [hitV kd v x] ++ hitsV kd v (itemsT l)) else 0)
    else
      vis kd v k r (P ++ [hitV kd v x]) + 1 + (if dist kd x.2.1 v - q ≤ reachH k (P ++ [hitV kd v x] ++ hitsV kd v (itemsT r)) then vis kd v k l (P ++ [hitV kd v x] ++ hitsV kd v (itemsT r)) else 0)
end Go.Vs

namespace Go.Vs

/-! ## The program's search -/
/-! ## What is answered -/
end Go.Vs

namespace Go.Vs

/-! ## Exact laws -/
end Go.Vs

namespace Go.Vs

end Go.Vs

namespace Go.Vs

/-! ## The first of the least -/
def IsLeast (D : Nat → Int) (n k : Nat) : Prop := k < n ∧ (∀ j, j < n → D k ≤ D j) ∧ ∀ j, j < k → D k < D j
def leastN (D : Nat → Int) : Nat → Nat
  | 0 => 0
  | n + 1 => if D n < D (leastN D n) then n else leastN D n
theorem leastN_one (D : Nat → Int) : leastN D 1 = 0 := by simp [leastN]
theorem leastN_is (D : Nat → Int) : ∀ n, 1 ≤ n → IsLeast D n (leastN D n)
  | 0, h => by omega
  | 1, _ => by
    rw [leastN_one]
    refine ⟨by omega, fun j hj => ?_, fun j hj => by omega⟩
    have : j = 0 := by omega
    subst this; omega
  | n + 2, _ => by
    obtain ⟨h1, h2, h3⟩ := leastN_is D (n + 1) (by omega)
    unfold leastN
    split
    · rename_i h
      refine ⟨by omega, fun j hj => ?_, fun j hj => ?_⟩
      · rcases Nat.lt_or_ge j (n + 1) with hj' | hj'
        · have := h2 j hj'; omega
        · have : j = n + 1 := by omega
          subst this; omega
      · have := h2 j hj; omega
    · rename_i h
      refine ⟨by omega, fun j hj => ?_, h3⟩
      rcases Nat.lt_or_ge j (n + 1) with hj' | hj'
      · exact h2 j hj'
      · have : j = n + 1 := by omega
        subst this; omega
def SmallC (cs : List (List Int)) : Prop := cs.length < 2000000 ∧ ∀ c ∈ cs, c.length < 2000000
theorem kind3 : isKind 3 = true := rfl
/-! ## Drawn centres -/
/-! ## Laws -/
theorem SmallC.sub {cs ds : List (List Int)} (h : SmallC cs) (hs : ds.Sublist cs) : SmallC ds := ⟨by have := hs.length_le; have := h.1; omega, fun c hc => h.2 c (hs.subset hc)⟩
/-! ## Items and their centres -/
/-! ## Spreads -/
end Go.Vs

namespace Go.Vs

section
variable {cmp : Int → Int → Option Int} {D : Nat → Int} {n : Nat}
end

end Go.Vs

namespace Go.Vs

abbrev OkCs (cs : List (List Int)) : Prop := cs.length ≤ 9223372036854775807 ∧ ∀ x ∈ cs, (x.length ≤ 9223372036854775807 ∧ ∀ y ∈ x, True)
abbrev OkIs (l : List Item) : Prop := l.length ≤ 9223372036854775807 ∧ ∀ x ∈ l, (True ∧ ((x.2.1.length ≤ 9223372036854775807 ∧ ∀ y ∈ x.2.1, True) ∧ True))
theorem smallC_of {cs : List (List Int)} (h1 : cs.length ≤ 1048576) (h2 : ∀ x ∈ cs, x.length ≤ 1048576) : SmallC cs := ⟨by omega, fun c hc => by have := h2 c hc; omega⟩
theorem szC_ok {cs : List (List Int)} {left : Int} (ha : OkCs cs) (h0 : 0 ≤ left) (h1 : left ≤ 1048576) : ∃ s, M.laws_szIntSS cs left = some s ∧ (s < 0 ∨ (0 ≤ s ∧ s ≤ left ∧ cs.length ≤ 1048576 ∧ ∀ x ∈ cs, x.length ≤ 1048576)) := by
  unfold M.laws_szIntSS
  rw [w64_id (by have := ha.1; omega) (by omega)]
  by_cases h : left - (cs.length : Int) < 0
  · exact ⟨-1, by simp [h], .inl (by omega)⟩
  simp only [h, decide_false, cond_false]
  have hl : cs.length ≤ 1048576 := by omega
  have key : ∀ m k : Nat, ∀ l : Int, k + m = cs.length → 0 ≤ l → l ≤ left → ∃ r : Int ⊕ Int, loopM (fun (s3 : (Int) × (Int)) => (bif decide (s3.2 < (cs.length : Int)) then
  (gidx cs s3.2).bind fun x8 =>
  (M.laws_szIntS x8 s3.1).bind fun r19 =>
  (bif decide (r19 < 0) then
  some (.inr (.inr (-1)))
 else
  some (.inl (r19, w64 (s3.2 + 1))))
 else
  some (.inr (.inl s3.1)))) (l, (k : Int)) = some r ∧ (r = .inr (-1) ∨ ∃ l', r = .inl l' ∧ 0 ≤ l' ∧ l' ≤ left ∧ ∀ x ∈ cs.drop k, x.length ≤ 1048576) := by
    intro m
    induction m with
    | zero =>
      intro k l hk hl0 hl1
      have : k = cs.length := by omega
      subst this
      refine ⟨.inl l, ?_, .inr ⟨l, rfl, hl0, hl1, by simp⟩⟩
      rw [loopM_eq]; simp [selim]
    | succ m ih =>
      intro k l hk hl0 hl1
      have hlt : k < cs.length := by omega
      have e1 : decide ((k : Int) < (cs.length : Int)) = true := by simpa using hlt
      have e2 : w64 ((k : Int) + 1) = ((k + 1 : Nat) : Int) := w64_id (by omega) (by omega)
      obtain ⟨s, es, hs⟩ := szIntS_ok (a := cs[k]) (left := l) (ha.2 _ (List.getElem_mem hlt)).1 hl0 (by omega)
      rw [loopM_eq]
      simp only [e1, cond_true, gidx_nat hlt, Option.bind_some, es, e2]
      rcases hs with hs | ⟨hs0, hs1, hs2⟩
      · exact ⟨.inr (-1), by simp [hs, selim], .inl rfl⟩
      · obtain ⟨r, hr, hr'⟩ := ih (k + 1) s (by omega) hs0 (by omega)
        refine ⟨r, ?_, ?_⟩
        · have : ¬ s < 0 := by omega
          simp only [this, decide_false, cond_false, selim, Option.bind_some]
          exact hr
        · rcases hr' with hr' | ⟨l', e, h0', h1', hall⟩
          · exact .inl hr'
          · refine .inr ⟨l', e, h0', h1', ?_⟩
            rw [List.drop_eq_getElem_cons hlt]
            intro x hx'
            rcases List.mem_cons.1 hx' with h | h
            · subst h; exact hs2
            · exact hall x h
  obtain ⟨r, hr, hr'⟩ := key cs.length 0 (left - cs.length) (by omega) (by omega) (by omega)
  simp only [Int.cast_ofNat_Int] at hr
  rw [hr]
  rcases hr' with rfl | ⟨l', rfl, h0', h1', hall⟩
  · exact ⟨-1, rfl, .inl (by omega)⟩
  · exact ⟨l', rfl, .inr ⟨h0', h1', hl, by simpa using hall⟩⟩
end Go.Vs

namespace Go.Vs

/-! ## Settling -/
end Go.Vs

namespace Go.Vs

/-! ## What searches cost -/
/-! ## Exact laws -/
end Go.Vs

namespace Go.Vs

/-! ## All items are in a list -/
end Go.Vs

namespace Go.Vs

end Go.Vs

namespace Go.Vs

def isHalf (v : List Int) : Bool := decide (v.length = 2) && v.all fun x => decide (-100 ≤ x) && decide (x ≤ 100)
theorem isHalf_iff {v : List Int} : isHalf v = true ↔ v.length = 2 ∧ ∀ x ∈ v, -100 ≤ x ∧ x ≤ 100 := by
  unfold isHalf; simp
theorem isHalf_cut {v : List Int} (h : isHalf v = true) : ∃ a b, v = [a, b] ∧ Co a ∧ Co b := by
  obtain ⟨h1, h2⟩ := isHalf_iff.1 h
  match v, h1 with
  | [a, b], _ => exact ⟨a, b, rfl, h2 a (by simp), h2 b (by simp)⟩
abbrev Book := List (List Int) × List (List Int)
def okH (l : List (List Int)) : Bool := decide (l.length = 4) && l.all isHalf
def okB (b : Book) : Bool := okH b.1 && okH b.2
theorem okH_iff {l : List (List Int)} : okH l = true ↔ l.length = 4 ∧ ∀ v ∈ l, isHalf v = true := by unfold okH; simp
theorem okB_iff {b : Book} : okB b = true ↔ okH b.1 = true ∧ okH b.2 = true := by unfold okB; simp
def SmallB (b : Book) : Prop := SmallC b.1 ∧ SmallC b.2
theorem specHalves_ok {l : List (List Int)} (s : SmallC l) : M.spec_validHalves l = some (l.all isHalf) := by
  unfold M.spec_validHalves
  have hl := s.1
  rw [loop_all (xs := l) (P := isHalf) (r := false)]
  · by_cases h : l.all isHalf = true
    · rw [if_pos h, h]; simp [selim]
    · rw [if_neg h]; simp only [Bool.not_eq_true] at h; rw [h]; simp [selim]
  · intro i hi
    have hx := s.2 _ (List.getElem_mem hi)
    have e5 : decide ((i : Int) < (l.length : Int)) = true := decide_eq_true (by omega)
    have e6 : w64 ((i : Int) + 1) = (i : Int) + 1 := w64_id (by omega) (by omega)
    simp only [e5, cond_true, gidx_nat hi, Option.bind_some, spec_all l[i] _ _ hx, e6]
    unfold isHalf
    by_cases h2 : l[i].length = 2
    · have : ((l[i].length : Int) != 2) = false := by rw [h2]; rfl
      simp only [this, cond_false, Option.bind_some, h2, decide_true, Bool.true_and]
      cases (l[i].all fun x => decide (-100 ≤ x) && decide (x ≤ 100)) <;> simp
    · have : ((l[i].length : Int) != 2) = true := by simp; omega
      simp [this, h2]
  · simp
theorem specBook_ok {b : Book} (s : SmallB b) : M.spec_validBook (b.1, b.2) = some (okB b) := by
  unfold M.spec_validBook okB okH
  simp only [specHalves_ok s.1, specHalves_ok s.2, Option.bind_some]
  have e : ∀ n : Nat, ((n : Int) == 4) = decide (n = 4) := by
    intro n; rw [Bool.eq_iff_iff]; simp; omega
  rw [e, e]
  cases decide (b.1.length = 4) <;> cases decide (b.2.length = 4) <;> cases b.1.all isHalf <;> simp

end Go.Vs

namespace Go.Vs

def hd2 (u v : List Int) : Int := gap (u.getD 0 0) (v.getD 0 0) * gap (u.getD 0 0) (v.getD 0 0) + gap (u.getD 1 0) (v.getD 1 0) * gap (u.getD 1 0) (v.getD 1 0)
theorem hd2_range {u v : List Int} (hu : isHalf u = true) (hv : isHalf v = true) : 0 ≤ hd2 u v ∧ hd2 u v ≤ 80000 := by
  obtain ⟨a, b, rfl, ha, hb⟩ := isHalf_cut hu
  obtain ⟨x, y, rfl, hx, hy⟩ := isHalf_cut hv
  have s0 := sq_bounds (gap_nonneg a x) (gap_le ha hx)
  have s1 := sq_bounds (gap_nonneg b y) (gap_le hb hy)
  show 0 ≤ gap a x * gap a x + gap b y * gap b y ∧ gap a x * gap a x + gap b y * gap b y ≤ 80000
  omega
theorem specHalfDist_ok {u v : List Int} (hu : isHalf u = true) (hv : isHalf v = true) : M.spec_halfDist u v = some (hd2 u v) := by
  obtain ⟨a, b, rfl, ha, hb⟩ := isHalf_cut hu
  obtain ⟨x, y, rfl, hx, hy⟩ := isHalf_cut hv
  have e : ∀ p q, Co p → Co q → M.spec_size (w64 (p - q)) = some (gap p q) := by
    intro p q hp hq
    unfold Co at hp hq
    unfold M.spec_size
    rw [w64_id (n := p - q) (by omega) (by omega), w64_id (n := 0 - (p - q)) (by omega) (by omega)]
    unfold gap
    congr 1; omega
  have ea := e a x ha hx
  have eb := e b y hb hy
  have s0 := sq_bounds (gap_nonneg a x) (gap_le ha hx)
  have s1 := sq_bounds (gap_nonneg b y) (gap_le hb hy)
  have eh : hd2 [a, b] [x, y] = gap a x * gap a x + gap b y * gap b y := rfl
  rw [eh]
  generalize gap a x = g0 at *
  generalize gap b y = g1 at *
  have q0 : w64 (g0 * g0) = g0 * g0 := w64_id (by omega) (by omega)
  have q1 : w64 (g1 * g1) = g1 * g1 := w64_id (by omega) (by omega)
  have e0 : w64 (0 + g0 * g0) = g0 * g0 := by rw [w64_id (by omega) (by omega)]; omega
  have e1 : w64 (g0 * g0 + g1 * g1) = g0 * g0 + g1 * g1 := w64_id (by omega) (by omega)
  have l2 : (([a, b] : List Int).length : Int) = 2 := rfl
  have d02 : decide ((0 : Int) < 2) = true := rfl
  have d12 : decide ((1 : Int) < 2) = true := rfl
  have d22 : decide ((2 : Int) < 2) = false := rfl
  have k1 : ((3 : Int) == 1) = false := rfl
  have k2 : ((3 : Int) == 2) = false := rfl
  have k3 : ((3 : Int) == 3) = true := rfl
  unfold M.spec_halfDist M.spec_dist
  let st : Nat → Int × Int := fun i => if i = 0 then (0, 0) else if i = 1 then (g0 * g0, 1) else (g0 * g0 + g1 * g1, 2)
  have key := loop_run (R := Int) (r := g0 * g0 + g1 * g1) (f := fun (s2 : (Int) × (Int)) => (bif decide (s2.2 < (([a, b] : List Int).length : Int)) then
  Option.bind ((gidx [a, b] s2.2).bind fun x9 =>
  (gidx [x, y] s2.2).bind fun x14 =>
  (M.spec_size (w64 (x9 - x14))).bind fun r20 =>
  (bif (3 : Int) == 1 then
  some (w64 (s2.1 + r20))
 else
  (bif (3 : Int) == 2 then
  some (max s2.1 r20)
 else
  (bif (3 : Int) == 3 then
  some (w64 (s2.1 + (w64 (r20 * r20))))
 else
  (M.spec_toInt (decide (0 < r20))).bind fun r27 =>
  some (w64 (s2.1 + r27)))))) fun o8 =>
  some (.inl (o8, w64 (s2.2 + 1)))
 else
  some (.inr s2.1))) 2 st (by
    intro i hi
    rcases (show i = 0 ∨ i = 1 by omega) with rfl | rfl
    · simp only [st, if_true, l2, d02, gi0, i01, q0, e0, ea, k1, k2, k3, cond_true, cond_false, Option.bind_some]; rfl
    · have st1 : st 1 = (g0 * g0, 1) := rfl
      have st2 : st (1 + 1) = (g0 * g0 + g1 * g1, 2) := rfl
      rw [st1, st2]
      simp only [l2, d12, gi1, i12, q1, e1, eb, k1, k2, k3, cond_true, cond_false, Option.bind_some]) (by
    simp only [st, l2]; rfl)
  simp only [st, if_true] at key
  rw [key]; rfl
def hD (l : List (List Int)) (v : List Int) (j : Nat) : Int := hd2 (l.getD j []) v
theorem hD_at {l : List (List Int)} {v : List Int} {j : Nat} (h : j < l.length) : hD l v j = hd2 l[j] v := by
  unfold hD; simp [List.getD, h]
def clo (l : List (List Int)) (v : List Int) : Nat := leastN (hD l v) l.length
theorem clo_is {l : List (List Int)} {v : List Int} (h : okH l = true) : IsLeast (hD l v) 4 (clo l v) := by
  have h4 := (okH_iff.1 h).1
  have := leastN_is (hD l v) 4 (by omega)
  unfold clo; rw [h4]; exact this
theorem clo_lt {l : List (List Int)} {v : List Int} (h : okH l = true) : clo l v < 4 := (clo_is h).1
theorem specClo_ok {l : List (List Int)} {v : List Int} (hl : okH l = true) (hv : isHalf v = true) : M.spec_closest l v = some (clo l v : Int) := by
  unfold M.spec_closest
  obtain ⟨c4, hvec⟩ := okH_iff.1 hl
  have hloop := loop_run (R := Int) (f := fun (s2 : (Int) × (Int)) => (bif decide (s2.2 < (l.length : Int)) then
  Option.bind ((gidx l s2.2).bind fun x6 =>
  (M.spec_halfDist x6 v).bind fun r16 =>
  (gidx l s2.1).bind fun x19 =>
  (M.spec_halfDist x19 v).bind fun r30 =>
  (bif decide (r16 < r30) then
  some s2.2
 else
  some s2.1)) fun o5 =>
  some (.inl (o5, w64 (s2.2 + 1)))
 else
  some (.inr s2.1))) (r := (clo l v : Int)) (l.length - 1) (fun i => ((leastN (hD l v) (i + 1) : Int), ((i + 1 : Nat) : Int))) (by
    intro i hi
    have hi1 : i + 1 < l.length := by omega
    have e1 : decide (((i + 1 : Nat) : Int) < (l.length : Int)) = true := decide_eq_true (by omega)
    have e2 : w64 (((i + 1 : Nat) : Int) + 1) = ((i + 1 + 1 : Nat) : Int) := w64_succ (by omega)
    have hk := (leastN_is (hD l v) (i + 1) (by omega)).1
    have hk' : leastN (hD l v) (i + 1) < l.length := by omega
    simp only [e1, cond_true, gidx_nat hi1, gidx_nat hk', Option.bind_some, specHalfDist_ok (hvec _ (List.getElem_mem hi1)) hv, specHalfDist_ok (hvec _ (List.getElem_mem hk')) hv, e2, ← hD_at hi1, ← hD_at hk']
    rw [leastN.eq_2 (hD l v) (i + 1)]
    by_cases hlt : hD l v (i + 1) < hD l v (leastN (hD l v) (i + 1))
    · simp only [hlt, decide_true, cond_true, if_true, Option.bind_some]
    · simp only [hlt, decide_false, cond_false, if_false, Option.bind_some]) (by
    have e0 : l.length - 1 + 1 = l.length := by omega
    have e1 : decide ((l.length : Int) < (l.length : Int)) = false := decide_eq_false (by omega)
    simp only [e0, e1, cond_false, clo])
  simp only [leastN_one, Nat.zero_add, Int.cast_ofNat_Int] at hloop
  rw [hloop]; rfl
theorem isVec_halves {v : List Int} (h : isVec v = true) : isHalf (v.take 2) = true ∧ isHalf (v.drop 2) = true := by
  obtain ⟨a, b, c, d, rfl, ha, hb, hc, hd⟩ := isVec_cut h
  unfold Co at *
  simp [isHalf]; omega
theorem halves_isVec {u v : List Int} (hu : isHalf u = true) (hv : isHalf v = true) : isVec (u ++ v) = true := by
  obtain ⟨a, b, rfl, ha, hb⟩ := isHalf_cut hu
  obtain ⟨x, y, rfl, hx, hy⟩ := isHalf_cut hv
  unfold Co at *
  simp [isVec]; omega
def encF (b : Book) (v : List Int) : Nat := clo b.1 (v.take 2) * 4 + clo b.2 (v.drop 2)
def decF (b : Book) (c : Nat) : List Int := b.1.getD (c / 4) [] ++ b.2.getD (c % 4) []
theorem encF_lt {b : Book} {v : List Int} (h : okB b = true) : encF b v < 16 := by
  have h1 := clo_lt (v := v.take 2) (okB_iff.1 h).1
  have h2 := clo_lt (v := v.drop 2) (okB_iff.1 h).2
  unfold encF; omega
theorem specEnc_ok {b : Book} {v : List Int} (h : okB b = true) (hv : isVec v = true) : M.spec_encode (b.1, b.2) v = some (encF b v : Int) := by
  unfold M.spec_encode
  obtain ⟨hb1, hb2⟩ := okB_iff.1 h
  obtain ⟨hh1, hh2⟩ := isVec_halves hv
  have hl := (isVec_iff.1 hv).1
  have g1 : gslice v 0 2 = some (v.take 2) := by rw [gslice_ok (by omega) (by omega) (by omega)]; rfl
  have g2 : gslice v 2 (v.length : Int) = some (v.drop 2) := by
    rw [gslice_ok (by omega) (by omega) (by omega), Int.toNat_natCast, List.take_length]; rfl
  have h1 := clo_lt (v := v.take 2) hb1
  have h2 := clo_lt (v := v.drop 2) hb2
  simp only [g1, g2, Option.bind_some, specClo_ok hb1 hh1, specClo_ok hb2 hh2]
  rw [w64_id (n := (clo b.1 (v.take 2) : Int) * 4) (by omega) (by omega), w64_id (by omega) (by omega)]
  unfold encF; push_cast; rfl
theorem specDec_ok {b : Book} {c : Nat} (h : okB b = true) (hc : c < 16) : M.spec_decode (b.1, b.2) (c : Int) = some (decF b c) := by
  unfold M.spec_decode decF
  obtain ⟨hb1, hb2⟩ := okB_iff.1 h
  obtain ⟨l1, a1⟩ := okH_iff.1 hb1
  obtain ⟨l2, a2⟩ := okH_iff.1 hb2
  have i1 : c / 4 < b.1.length := by omega
  have i2 : c % 4 < b.2.length := by omega
  have e1 : w64 ((c : Int).tdiv 4) = ((c / 4 : Nat) : Int) := by
    have : (c : Int).tdiv 4 = ((c / 4 : Nat) : Int) := rfl
    rw [this]; exact w64_id (by omega) (by omega)
  have e2 : (c : Int).tmod 4 = ((c % 4 : Nat) : Int) := rfl
  have n1 := (isHalf_iff.1 (a1 _ (List.getElem_mem i1))).1
  have n2 := (isHalf_iff.1 (a2 _ (List.getElem_mem i2))).1
  simp only [e1, e2, gidx_nat i1, gidx_nat i2, Option.bind_some]
  rw [gapp_ok (by simp; omega), Option.bind_some, gapp_ok (by simp; omega), Option.bind_some]
  simp [List.getD, i1, i2]
theorem decF_vec {b : Book} {c : Nat} (h : okB b = true) (hc : c < 16) : isVec (decF b c) = true := by
  obtain ⟨hb1, hb2⟩ := okB_iff.1 h
  obtain ⟨l1, a1⟩ := okH_iff.1 hb1
  obtain ⟨l2, a2⟩ := okH_iff.1 hb2
  have i1 : c / 4 < b.1.length := by omega
  have i2 : c % 4 < b.2.length := by omega
  unfold decF
  have e1 : b.1.getD (c / 4) [] = b.1[c / 4] := by simp [List.getD, i1]
  have e2 : b.2.getD (c % 4) [] = b.2[c % 4] := by simp [List.getD, i2]
  rw [e1, e2]
  exact halves_isVec (a1 _ (List.getElem_mem i1)) (a2 _ (List.getElem_mem i2))
theorem dist_dec {b : Book} {c : Nat} {v : List Int} (h : okB b = true) (hc : c < 16) (hv : isVec v = true) : dist 3 (decF b c) v = hD b.1 (v.take 2) (c / 4) + hD b.2 (v.drop 2) (c % 4) := by
  have hd := decF_vec h hc
  obtain ⟨hb1, hb2⟩ := okB_iff.1 h
  obtain ⟨l1, a1⟩ := okH_iff.1 hb1
  obtain ⟨l2, a2⟩ := okH_iff.1 hb2
  have i1 : c / 4 < b.1.length := by omega
  have i2 : c % 4 < b.2.length := by omega
  have e1 : b.1.getD (c / 4) [] = b.1[c / 4] := by simp [List.getD, i1]
  have e2 : b.2.getD (c % 4) [] = b.2[c % 4] := by simp [List.getD, i2]
  obtain ⟨p, q, hp, _, _⟩ := isHalf_cut (a1 _ (List.getElem_mem i1))
  obtain ⟨r, s, hr, _, _⟩ := isHalf_cut (a2 _ (List.getElem_mem i2))
  obtain ⟨x, y, z, w, rfl, _⟩ := isVec_cut hv
  have ed : decF b c = [p, q, r, s] := by unfold decF; rw [e1, e2, hp, hr]; rfl
  rw [ed] at hd ⊢
  rw [dist_vec hd hv, hD_at i1, hD_at i2, hp, hr]
  show gap p x * gap p x + gap q y * gap q y + gap r z * gap r z + gap s w * gap s w = (gap p x * gap p x + gap q y * gap q y) + (gap r z * gap r z + gap s w * gap s w)
  omega
end Go.Vs

namespace Go.Vs

end Go.Vs

namespace Go.Vs

def codeHits (b : Book) (l : List Item) (v : List Int) : List Hit := l.map fun x => (x.1, dist 3 (decF b (encF b x.2.1)) v)
theorem codeHits_len {b : Book} {l : List Item} {v : List Int} : (codeHits b l v).length = l.length := by simp [codeHits]
theorem codeHits_snoc {b : Book} {l : List Item} {v : List Int} {i : Nat} (hi : i < l.length) : codeHits b (l.take (i + 1)) v = codeHits b (l.take i) v ++ [(l[i].1, dist 3 (decF b (encF b l[i].2.1)) v)] := by
  unfold codeHits; rw [List.take_succ_eq_append_getElem hi, List.map_append]; rfl
def codeNear (b : Book) (l : List Item) (v : List Int) (k : Int) : List Hit := if (okB b = true ∧ okQuery l 3 v = true) ∧ 1 ≤ k ∧ k ≤ 16 then topH k.toNat (codeHits b l v) else []
theorem specCodeNear_ok {b : Book} {l : List Item} {v : List Int} {k : Int} (sb : SmallB b) (sl : SmallS l) (hv : v.length < 2000000) : M.spec_CodeNearest b l v k = some (codeNear b l v k) := by
  unfold M.spec_CodeNearest codeNear
  simp only [specBook_ok sb, validQuery_ok sl hv, inRange_ok, Option.bind_some]
  cases hb : okB b with
  | false => simp
  | true =>
    cases hq : okQuery l 3 v with
    | false => simp
    | true =>
      by_cases hk : 1 ≤ k ∧ k ≤ 16
      · obtain ⟨n, rfl⟩ := Int.eq_ofNat_of_zero_le (show 0 ≤ k by omega)
        obtain ⟨ho, _, hvv⟩ := okQuery_iff.1 hq
        obtain ⟨hlen, hit, _⟩ := okStore_iff.1 ho
        have d : decide (1 ≤ ((n : Nat) : Int) ∧ ((n : Nat) : Int) ≤ 16) = true := decide_eq_true hk
        simp only [d, Bool.not_true, cond_false, Option.bind_some, hk, and_self, if_true, Int.toNat_natCast]
        refine fold_bind (xs := l) (fun (s : List Hit) i => (s, i)) (fun s x => (insH (x.1, dist 3 (decF b (encF b x.2.1)) v) s).take n) (fun i s => s = topH n (codeHits b (l.take i) v)) (fun s => s) (s0 := []) (by simp [codeHits, topH, isort]) ?_ ?_ ?_
        · rintro s i hi rfl
          have e1 : decide ((i : Int) < (l.length : Int)) = true := decide_eq_true (by omega)
          have hx := isItem_vec (hit _ (List.getElem_mem hi))
          have hL := topH_len n (codeHits b (l.take i) v)
          have henc := encF_lt (v := l[i].2.1) hb
          simp only [e1, cond_true, gidx_nat hi, Option.bind_some, specEnc_ok hb hx, specDec_ok hb henc, specDist_vec kind3 (decF_vec hb henc) hvv, w64_succ (i := i) (by omega)]
          have := addHit_ok (k := n) (topH_asc n (codeHits b (l.take i) v)) (by rw [hL]; omega) (by omega) (l[i].1, dist 3 (decF b (encF b l[i].2.1)) v)
          simp only at this
          rw [this]
          refine ⟨rfl, ?_⟩
          rw [← topH_snoc, codeHits_snoc hi]
        · intro s _; simp
        · intro hs
          rw [hs, List.take_length]
      · simp [hk]

end Go.Vs

namespace Go.Vs

end Go.Vs

namespace Go.Vs

def itemAt (l : List Item) (k : Int) : Item := (l.find? fun x => x.1 == k).getD zItem
theorem itemAt_mem {l : List Item} {k : Int} (h : ∃ x ∈ l, x.1 = k) : itemAt l k ∈ l ∧ (itemAt l k).1 = k ∧ ∃ i, ∃ hi : i < l.length, l.findIdx? (fun x => x.1 == k) = some i ∧ l[i] = itemAt l k := by
  obtain ⟨x, hx, rfl⟩ := h
  cases hf : l.findIdx? (fun y => y.1 == x.1) with
  | none =>
    rw [List.findIdx?_eq_none_iff] at hf
    have := hf x hx
    simp at this
  | some i =>
    obtain ⟨hi, h1, h2⟩ := List.findIdx?_eq_some_iff_getElem.1 hf
    have hfd : l.find? (fun y => y.1 == x.1) = some l[i] := List.find?_eq_some_iff_getElem.2 ⟨h1, i, hi, rfl, fun j hj => by have := h2 j hj; simpa using this⟩
    have e : itemAt l x.1 = l[i] := by unfold itemAt; rw [hfd]; rfl
    rw [e]
    exact ⟨List.getElem_mem hi, by simpa using h1, i, hi, rfl, rfl⟩
def someOf (b : Book) (l : List Item) (v : List Int) (many : Nat) : List Item := (topH many (codeHits b l v)).map fun h => itemAt l h.1
theorem codeHit_key {b : Book} {l : List Item} {v : List Int} {many : Nat} : ∀ h ∈ topH many (codeHits b l v), ∃ x ∈ l, x.1 = h.1 := by
  intro h hh
  have := topH_sub _ _ h hh
  unfold codeHits at this
  obtain ⟨x, hx, rfl⟩ := List.mem_map.1 this
  exact ⟨x, hx, rfl⟩
theorem someOf_mem {b : Book} {l : List Item} {v : List Int} {many : Nat} : ∀ x ∈ someOf b l v many, x ∈ l := by
  intro x hx
  unfold someOf at hx
  obtain ⟨h, hh, rfl⟩ := List.mem_map.1 hx
  exact (itemAt_mem (codeHit_key h hh)).1
theorem someOf_len {b : Book} {l : List Item} {v : List Int} {many : Nat} : (someOf b l v many).length ≤ l.length := by
  unfold someOf
  rw [List.length_map, topH_len, codeHits_len]; omega
def rerank (b : Book) (l : List Item) (v : List Int) (many k : Int) : List Hit :=
  if ((okB b = true ∧ okQuery l 3 v = true) ∧ 1 ≤ many ∧ many ≤ 16) ∧ 1 ≤ k ∧ k ≤ 16 then topH k.toNat (hitsOf (someOf b l v many.toNat) 3 v) else []
theorem specRerank_ok {b : Book} {l : List Item} {v : List Int} {many k : Int} (sb : SmallB b) (sl : SmallS l) (hv : v.length < 2000000) : M.spec_RerankNearest b l v many k = some (rerank b l v many k) := by
  unfold M.spec_RerankNearest rerank
  simp only [specBook_ok sb, validQuery_ok sl hv, inRange_ok, Option.bind_some]
  by_cases hk : 1 ≤ k ∧ k ≤ 16
  · by_cases hm : 1 ≤ many ∧ many ≤ 16
    · cases hb : okB b with
      | false => simp [hk, hm]
      | true =>
        cases hq : okQuery l 3 v with
        | false => simp [hk, hm]
        | true =>
          obtain ⟨n, rfl⟩ := Int.eq_ofNat_of_zero_le (show 0 ≤ k by omega)
          obtain ⟨m, rfl⟩ := Int.eq_ofNat_of_zero_le (show 0 ≤ many by omega)
          obtain ⟨ho, _, hvv⟩ := okQuery_iff.1 hq
          obtain ⟨hlen, hit, _⟩ := okStore_iff.1 ho
          have d : decide (1 ≤ ((n : Nat) : Int) ∧ ((n : Nat) : Int) ≤ 16) = true := decide_eq_true hk
          have d2 : decide (1 ≤ ((m : Nat) : Int) ∧ ((m : Nat) : Int) ≤ 16) = true := decide_eq_true hm
          have hN : codeNear b l v (m : Int) = topH m (codeHits b l v) := by
            unfold codeNear; rw [if_pos ⟨⟨hb, hq⟩, hm⟩]; rfl
          have hc := specCodeNear_ok (k := (m : Int)) sb sl hv
          rw [hN] at hc
          simp only [d, d2, Bool.not_true, cond_false, Option.bind_some, hk, hm, and_self, if_true, Int.toNat_natCast, hc]
          have hkey := codeHit_key (b := b) (l := l) (v := v) (many := m)
          have hsl := someOf_len (b := b) (l := l) (v := v) (many := m)
          have hsm := someOf_mem (b := b) (l := l) (v := v) (many := m)
          have hhl : (topH m (codeHits b l v)).length ≤ l.length := by rw [topH_len, codeHits_len]; omega
          unfold someOf at hsl hsm ⊢
          generalize topH m (codeHits b l v) = H at *
          refine fold_bind (xs := H) (fun (s : List Item) i => (s, i)) (fun s h => s ++ [itemAt l h.1]) (fun i s => s = (H.take i).map fun h => itemAt l h.1) (fun s => s) (s0 := []) (by simp) ?_ ?_ ?_
          · rintro s i hi rfl
            have e1 : decide ((i : Int) < (H.length : Int)) = true := decide_eq_true (by omega)
            obtain ⟨_, _, j, hj, hf, he⟩ := itemAt_mem (hkey _ (List.getElem_mem hi))
            simp only [e1, cond_true, gidx_nat hi, Option.bind_some, keyAt_ok sl.hL, hf, gidx_nat hj, he, w64_succ (i := i) (by omega)]
            rw [gapp_ok (by simp only [List.length_singleton, List.length_map, List.length_take]; omega), List.take_succ_eq_append_getElem hi, List.map_append]
            exact ⟨rfl, rfl⟩
          · intro s _; simp
          · intro hs
            rw [hs, List.take_length]
            have hvec : ∀ x ∈ H.map (fun h => itemAt l h.1), isVec x.2.1 = true := fun x hx => isItem_vec (hit _ (hsm x hx))
            have := specAmong_ok (k := n) hvec kind3 hvv (by omega) (by omega)
            rw [this]; rfl
    · simp [hk, hm]
  · simp [hk]
end Go.Vs

namespace Go.Vs

/-! ## Planes -/
end Go.Vs

namespace Go.Vs

theorem implSide_ok {l : List (List Int)} (s : SmallC l) : M.impl_validSide l = some (okH l) := by
  unfold M.impl_validSide okH
  have hl := s.1
  by_cases h4 : l.length = 4
  · have e0 : ((l.length : Int) != 4) = false := by simp; omega
    rw [e0, cond_false, decide_eq_true h4, Bool.true_and]
    rw [loop_all (xs := l) (P := isHalf) (r := false)]
    · by_cases h : l.all isHalf = true
      · rw [if_pos h, h]; rfl
      · rw [if_neg h]; simp only [Bool.not_eq_true] at h; rw [h]; rfl
    · intro i hi
      have hx := s.2 _ (List.getElem_mem hi)
      have e5 : decide ((i : Int) < (l.length : Int)) = true := decide_eq_true (by omega)
      have e6 : w64 ((i : Int) + 1) = (i : Int) + 1 := w64_id (by omega) (by omega)
      simp only [e5, cond_true, gidx_nat hi, Option.bind_some, implCoords_ok l[i] hx, e6]
      unfold isHalf
      by_cases h2 : l[i].length = 2
      · have e2 : ((l[i].length : Int) != 2) = false := by rw [h2]; rfl
        rw [e2, cond_false, decide_eq_true h2, Bool.true_and]
        cases (l[i].all fun x => decide (-100 ≤ x) && decide (x ≤ 100)) <;> simp
      · have e2 : ((l[i].length : Int) != 2) = true := by simp; omega
        rw [e2, cond_true, decide_eq_false h2, Bool.false_and]
        simp
    · simp
  · have e0 : ((l.length : Int) != 4) = true := by simp; omega
    rw [e0, cond_true, decide_eq_false h4, Bool.false_and]
theorem implBook_ok {b : Book} (s : SmallB b) : M.impl_ValidBook (b.1, b.2) = some (okB b) := by
  unfold M.impl_ValidBook okB
  simp only [implSide_ok s.1, implSide_ok s.2, Option.bind_some]
  cases okH b.1 <;> cases okH b.2 <;> rfl
/-! ## Tables -/
theorem sq_gap (a b : Int) : gap a b * gap a b = (b - a) * (b - a) := by
  unfold gap
  rcases Int.le_total a b with h | h
  · rw [Int.max_eq_right (by omega)]
  · rw [Int.max_eq_left (by omega)]; grind
theorem tab_inner {T u v : List Int} {i : Nat} (hT : T.length = 4) (hi : i < 4) (h0 : T[i]'(by omega) = 0) (hu : isHalf u = true) (hv : isHalf v = true) :
    loopM (fun (s21 : (List Int) × (Int)) => (bif decide (s21.2 < (v.length : Int)) then
  (gidx v s21.2).bind fun x25 =>
  (gidx s21.1 (i : Int)).bind fun x31 =>
  (gidx u s21.2).bind fun x35 =>
  (gidx u s21.2).bind fun x41 =>
  (gidx s21.1 (i : Int)).bind fun x49 =>
  some (.inl ((s21.1.set (i : Int).toNat (w64 (x31 + (w64 ((w64 (x25 - x35)) * (w64 (x25 - x41))))))), w64 (s21.2 + 1)))
 else
  some (.inr s21.1))) (T, 0) = some (T.set i (hd2 u v)) := by
  obtain ⟨a, b, rfl, ha, hb⟩ := isHalf_cut hu
  obtain ⟨x, y, rfl, hx, hy⟩ := isHalf_cut hv
  unfold Co at ha hb hx hy
  have l2 : (([x, y] : List Int).length : Int) = 2 := rfl
  have d02 : decide ((0 : Int) < 2) = true := rfl
  have d12 : decide ((1 : Int) < 2) = true := rfl
  have d22 : decide ((2 : Int) < 2) = false := rfl
  have hiT : i < T.length := by omega
  have hiT' : ∀ z, i < (T.set i z).length := fun z => by rw [List.length_set]; omega
  have s0 := sq_bounds (gap_nonneg a x) (show gap a x ≤ 200 by unfold gap; omega)
  have s1 := sq_bounds (gap_nonneg b y) (show gap b y ≤ 200 by unfold gap; omega)
  have eh : hd2 [a, b] [x, y] = gap a x * gap a x + gap b y * gap b y := rfl
  rw [sq_gap] at s0 s1
  rw [eh, sq_gap, sq_gap]
  have w0 : w64 (x - a) = x - a := w64_id (by omega) (by omega)
  have w1 : w64 (y - b) = y - b := w64_id (by omega) (by omega)
  generalize hp : (x - a) * (x - a) = p at *
  generalize hq : (y - b) * (y - b) = q at *
  have w2 : w64 p = p := w64_id (by omega) (by omega)
  have w3 : w64 q = q := w64_id (by omega) (by omega)
  have w4 : w64 (0 + p) = p := by rw [w64_id (by omega) (by omega)]; omega
  have w5 : w64 (p + q) = p + q := w64_id (by omega) (by omega)
  rw [loopM_eq]
  simp only [l2, d02, gi0, cond_true, Option.bind_some, gidx_nat hiT, h0, w0, hp, w2, w4, i01, selim, Int.toNat_natCast]
  rw [loopM_eq]
  simp only [d12, gi1, cond_true, Option.bind_some, gidx_nat (hiT' _), List.getElem_set_self, w1, hq, w3, w5, i12, selim, Int.toNat_natCast, List.set_set]
  rw [loopM_eq]
  simp only [d22, cond_false, Option.bind_some, selim]
def tabU (l : List (List Int)) (v : List Int) (i : Nat) : List Int := [if 0 < i then hD l v 0 else 0, if 1 < i then hD l v 1 else 0, if 2 < i then hD l v 2 else 0, if 3 < i then hD l v 3 else 0]
theorem tabU_set {l : List (List Int)} {v : List Int} {i : Nat} (hi : i < 4) : (tabU l v i).set i (hD l v i) = tabU l v (i + 1) := by
  rcases (show i = 0 ∨ i = 1 ∨ i = 2 ∨ i = 3 by omega) with rfl | rfl | rfl | rfl <;> simp [tabU]
theorem tabU_zero {l : List (List Int)} {v : List Int} {i : Nat} (hi : i < (tabU l v i).length) : (tabU l v i)[i] = 0 := by
  have hi' : i < 4 := hi
  rcases (show i = 0 ∨ i = 1 ∨ i = 2 ∨ i = 3 by omega) with rfl | rfl | rfl | rfl <;> simp [tabU]
def tab (l : List (List Int)) (v : List Int) : List Int := [hD l v 0, hD l v 1, hD l v 2, hD l v 3]
theorem table_ok {l : List (List Int)} {v : List Int} (hl : okH l = true) (hv : isHalf v = true) : M.impl_tableOf l v = some (tab l v) := by
  unfold M.impl_tableOf
  obtain ⟨c4, hvec⟩ := okH_iff.1 hl
  have hloop := loop_run (R := List Int) (r := tab l v) (f := fun (s6 : (List Int) × (Int)) => (bif decide (s6.2 < (l.length : Int)) then
  (gidx l s6.2).bind fun x10 =>
  Option.bind (loopM (fun (s21 : (List Int) × (Int)) => (bif decide (s21.2 < (v.length : Int)) then
  (gidx v s21.2).bind fun x25 =>
  (gidx s21.1 s6.2).bind fun x31 =>
  (gidx x10 s21.2).bind fun x35 =>
  (gidx x10 s21.2).bind fun x41 =>
  (gidx s21.1 s6.2).bind fun x49 =>
  some (.inl ((s21.1.set s6.2.toNat (w64 (x31 + (w64 ((w64 (x25 - x35)) * (w64 (x25 - x41))))))), w64 (s21.2 + 1)))
 else
  some (.inr s21.1))) (s6.1, 0)) fun o20 =>
  some (.inl (o20, w64 (s6.2 + 1)))
 else
  some (.inr s6.1))) 4 (fun i => (tabU l v i, (i : Int))) (by
    intro i hi
    have hi' : i < l.length := by omega
    have e1 : decide ((i : Int) < (l.length : Int)) = true := decide_eq_true (by omega)
    simp only [e1, cond_true, gidx_nat hi', Option.bind_some]
    rw [tab_inner (T := tabU l v i) rfl hi (tabU_zero (by show i < 4; exact hi)) (hvec _ (List.getElem_mem hi')) hv]
    simp only [Option.bind_some, w64_succ (i := i) (by omega)]
    rw [← hD_at hi', tabU_set hi]) (by
    have e1 : decide (((4 : Nat) : Int) < (l.length : Int)) = false := decide_eq_false (by omega)
    simp only [e1, cond_false]; rfl)
  have e0 : ((0 : Nat) : Int) = 0 := rfl
  simp only [e0] at hloop
  have e2 : (List.replicate 4 (0 : Int)) = tabU l v 0 := rfl
  rw [e2, hloop]; rfl
theorem tables_ok {b : Book} {v : List Int} (h : okB b = true) (hv : isVec v = true) : M.impl_tablesOf (b.1, b.2) v = some (tab b.1 (v.take 2), tab b.2 (v.drop 2)) := by
  unfold M.impl_tablesOf
  obtain ⟨hb1, hb2⟩ := okB_iff.1 h
  obtain ⟨hh1, hh2⟩ := isVec_halves hv
  have hl := (isVec_iff.1 hv).1
  have g1 : gslice v 0 2 = some (v.take 2) := by rw [gslice_ok (by omega) (by omega) (by omega)]; rfl
  have g2 : gslice v 2 (v.length : Int) = some (v.drop 2) := by
    rw [gslice_ok (by omega) (by omega) (by omega), Int.toNat_natCast, List.take_length]; rfl
  simp only [g1, g2, Option.bind_some, table_ok hb1 hh1, table_ok hb2 hh2]
theorem hD_range {l : List (List Int)} {v : List Int} {j : Nat} (hl : okH l = true) (hv : isHalf v = true) (hj : j < 4) : 0 ≤ hD l v j ∧ hD l v j ≤ 80000 := by
  obtain ⟨c4, hvec⟩ := okH_iff.1 hl
  have hj' : j < l.length := by omega
  rw [hD_at hj']; exact hd2_range (hvec _ (List.getElem_mem hj')) hv
theorem min_four (a b c d : Int) : M.slices_Min_int_int [a, b, c, d] = some (min (min (min a b) c) d) := by
  unfold M.slices_Min_int_int
  have l4' : (([a, b, c, d] : List Int).length : Int) = 4 := rfl
  have e1 : decide ((4 : Int) < 1) = false := rfl
  have i23 : w64 ((2 : Int) + 1) = 3 := w64_id (by omega) (by omega)
  have i34 : w64 ((3 : Int) + 1) = 4 := w64_id (by omega) (by omega)
  have g2 : gidx ([a, b, c, d] : List Int) 2 = some c := gidx_nat (i := 2) (by simp)
  have g3 : gidx ([a, b, c, d] : List Int) 3 = some d := gidx_nat (i := 3) (by simp)
  simp only [l4', e1, cond_false, gi0, Option.bind_some]
  rw [loopM_eq]
  simp only [show decide ((1 : Int) < 4) = true from rfl, cond_true, gi1, Option.bind_some, i12, selim]
  rw [loopM_eq]
  simp only [show decide ((2 : Int) < 4) = true from rfl, cond_true, g2, Option.bind_some, i23, selim]
  rw [loopM_eq]
  simp only [show decide ((3 : Int) < 4) = true from rfl, cond_true, g3, Option.bind_some, i34, selim]
  rw [loopM_eq]
  simp only [show decide ((4 : Int) < 4) = false from rfl, cond_false, Option.bind_some, selim]
theorem index_ok {l : List Int} {x : Int} (hl : l.length < 1000000) : M.slices_Index_int_int l x = some (match l.findIdx? (fun y => x == y) with | some i => (i : Int) | none => -1) := by
  unfold M.slices_Index_int_int
  rw [loop_first (xs := l) (fun y => x == y) (fun i => (i : Int))]
  · cases l.findIdx? (fun y => x == y) <;> rfl
  · intro i hi
    have e5 : decide ((i : Int) < (l.length : Int)) = true := decide_eq_true (by omega)
    simp only [e5, cond_true, gidx_nat hi, Option.bind_some, w64_succ (i := i) (by omega)]
    cases x == l[i] <;> rfl
  · simp
theorem leastN_four (D : Nat → Int) : IsLeast D 4 (leastN D 4) := leastN_is D 4 (by omega)
theorem near4_ok (D : Nat → Int) : M.impl_sideTable_nearest [D 0, D 1, D 2, D 3] = some (leastN D 4 : Int) := by
  unfold M.impl_sideTable_nearest
  simp only [min_four, Option.bind_some]
  rw [index_ok (by simp)]
  obtain ⟨h1, h2, h3⟩ := leastN_four D
  have a0 := h2 0 (by omega)
  have a1 := h2 1 (by omega)
  have a2 := h2 2 (by omega)
  have a3 := h2 3 (by omega)
  have hk := h3 0
  have hk1 := h3 1
  have hk2 := h3 2
  generalize leastN D 4 = k at *
  have hm : min (min (min (D 0) (D 1)) (D 2)) (D 3) = D k := by
    rcases (show k = 0 ∨ k = 1 ∨ k = 2 ∨ k = 3 by omega) with rfl | rfl | rfl | rfl <;> omega
  rw [hm]
  have : List.findIdx? (fun y => D k == y) [D 0, D 1, D 2, D 3] = some k := by
    rcases (show k = 0 ∨ k = 1 ∨ k = 2 ∨ k = 3 by omega) with rfl | rfl | rfl | rfl
    · simp [List.findIdx?_cons]
    · have e0 : (D 1 == D 0) = false := by simp; have := hk (by omega); omega
      simp [List.findIdx?_cons, e0]
    · have e0 : (D 2 == D 0) = false := by simp; have := hk (by omega); omega
      have e1 : (D 2 == D 1) = false := by simp; have := hk1 (by omega); omega
      simp [List.findIdx?_cons, e0, e1]
    · have e0 : (D 3 == D 0) = false := by simp; have := hk (by omega); omega
      have e1 : (D 3 == D 1) = false := by simp; have := hk1 (by omega); omega
      have e2 : (D 3 == D 2) = false := by simp; have := hk2 (by omega); omega
      simp [List.findIdx?_cons, e0, e1, e2]
  rw [this]; rfl
def encV (b : Book) (v : List Int) : Int := if okB b = true ∧ isVec v = true then (encF b v : Int) else -1
theorem implEnc_ok {b : Book} {v : List Int} (s : SmallB b) (hv : v.length < 2000000) : M.impl_EncodeVector (b.1, b.2) v = some (encV b v) := by
  unfold M.impl_EncodeVector encV
  simp only [implBook_ok s, impl_valid v hv, Option.bind_some]
  cases hb : okB b with
  | false => simp
  | true =>
    cases hvv : isVec v with
    | false => simp
    | true =>
      obtain ⟨hb1, hb2⟩ := okB_iff.1 hb
      have n1 : M.impl_sideTable_nearest (tab b.1 (v.take 2)) = some (clo b.1 (v.take 2) : Int) := by
        have := near4_ok (hD b.1 (v.take 2)); unfold clo; rw [(okH_iff.1 hb1).1]; exact this
      have n2 : M.impl_sideTable_nearest (tab b.2 (v.drop 2)) = some (clo b.2 (v.drop 2) : Int) := by
        have := near4_ok (hD b.2 (v.drop 2)); unfold clo; rw [(okH_iff.1 hb2).1]; exact this
      have h1 := clo_lt (v := v.take 2) hb1
      have h2 := clo_lt (v := v.drop 2) hb2
      simp only [Bool.not_true, cond_false, Option.bind_some, tables_ok hb hvv, n1, n2, and_self, if_true]
      rw [w64_id (n := 4 * (clo b.1 (v.take 2) : Int)) (by omega) (by omega), w64_id (by omega) (by omega)]
      unfold encF; push_cast; congr 1; omega
/-! ## Vectors of codes -/
/-! ## Distances of codes -/
def cds (b : Book) (v : List Int) : List Int := (List.range 16).map fun c => dist 3 (decF b c) v
def cdV (b : Book) (v : List Int) : List Int := if okB b = true ∧ isVec v = true then cds b v else []
theorem cds_eq {b : Book} {v : List Int} (h : okB b = true) (hv : isVec v = true) : cds b v = (tab b.1 (v.take 2)).flatMap fun x => (tab b.2 (v.drop 2)).map fun y => x + y := by
  have : cds b v = (List.range 16).map fun c => hD b.1 (v.take 2) (c / 4) + hD b.2 (v.drop 2) (c % 4) := by
    unfold cds
    refine List.map_congr_left fun c hc => ?_
    exact dist_dec h (List.mem_range.1 hc) hv
  rw [this]; rfl
theorem implCD_ok {b : Book} {v : List Int} (s : SmallB b) (hv : v.length < 2000000) : M.impl_CodeDistances (b.1, b.2) v = some (cdV b v) := by
  unfold M.impl_CodeDistances cdV
  simp only [implBook_ok s, impl_valid v hv, Option.bind_some]
  cases hb : okB b with
  | false => simp
  | true =>
    cases hvv : isVec v with
    | false => simp
    | true =>
      obtain ⟨hb1, hb2⟩ := okB_iff.1 hb
      obtain ⟨hh1, hh2⟩ := isVec_halves hvv
      have hm : gmakeC 0 16 (0 : Int) = some [] := rfl
      simp only [Bool.not_true, cond_false, Option.bind_some, tables_ok hb hvv, and_self, if_true, hm]
      rw [cds_eq hb hvv]
      have ra : ∀ x ∈ tab b.1 (v.take 2), 0 ≤ x ∧ x ≤ 80000 := by
        intro x hx
        simp only [tab, List.mem_cons, List.not_mem_nil, or_false] at hx
        rcases hx with rfl | rfl | rfl | rfl <;> exact hD_range hb1 hh1 (by omega)
      have rb : ∀ x ∈ tab b.2 (v.drop 2), 0 ≤ x ∧ x ≤ 80000 := by
        intro x hx
        simp only [tab, List.mem_cons, List.not_mem_nil, or_false] at hx
        rcases hx with rfl | rfl | rfl | rfl <;> exact hD_range hb2 hh2 (by omega)
      have la : (tab b.1 (v.take 2)).length = 4 := rfl
      have lb : (tab b.2 (v.drop 2)).length = 4 := rfl
      generalize tab b.1 (v.take 2) = A at *
      generalize tab b.2 (v.drop 2) = B at *
      have lz : ∀ i, i ≤ 4 → ((A.take i).flatMap fun x => B.map fun y => x + y).length = 4 * i := by
        intro i hi
        rw [List.length_flatMap]
        simp only [List.length_map, lb]
        rw [List.map_const', List.sum_replicate_nat, List.length_take, la]
        omega
      have eA : ∀ i : Int, decide (i < 4) = decide (i < (A.length : Int)) := fun i => by rw [la]; rfl
      have eB : ∀ i : Int, decide (i < 4) = decide (i < (B.length : Int)) := fun i => by rw [lb]; rfl
      simp only [eA]
      refine fold_bind (xs := A) (fun (s : List Int) i => (s, i)) (fun s x => s ++ B.map fun y => x + y) (fun i s => s = (A.take i).flatMap fun x => B.map fun y => x + y) (fun s => s) (s0 := []) (by simp) ?_ ?_ ?_
      · rintro s i hi rfl
        have e1 : decide ((i : Int) < (A.length : Int)) = true := decide_eq_true (by omega)
        have ri := ra _ (List.getElem_mem hi)
        have hlz := lz i (by omega)
        refine ⟨?_, ?_⟩
        · simp only [e1, cond_true, gidx_nat hi, Option.bind_some, ← eA]
          simp only [eB]
          refine fold_bind (xs := B) (fun (s : List Int) i => (s, i)) (fun s y => s ++ [A[i] + y]) (fun j s => s = ((A.take i).flatMap fun x => B.map fun y => x + y) ++ (B.take j).map fun y => A[i] + y) (fun s => s) (s0 := (A.take i).flatMap fun x => B.map fun y => x + y) (by simp) ?_ ?_ ?_
          · rintro s j hj rfl
            have e2 : decide ((j : Int) < (B.length : Int)) = true := decide_eq_true (by omega)
            have rj := rb _ (List.getElem_mem hj)
            have e3 : w64 (A[i] + B[j]) = A[i] + B[j] := w64_id (by omega) (by omega)
            simp only [e2, cond_true, gidx_nat hj, Option.bind_some, e3, w64_succ (i := j) (by omega)]
            rw [gapp_ok (by rw [List.length_append, hlz, List.length_map, List.length_take, List.length_singleton]; omega)]
            refine ⟨rfl, ?_⟩
            rw [List.take_succ_eq_append_getElem hj, List.map_append, List.append_assoc]; rfl
          · intro s _; simp
          · intro hs
            rw [hs, List.take_length, w64_succ (i := i) (by omega)]
        · rw [List.take_succ_eq_append_getElem hi, List.flatMap_append]; simp
      · intro s _; simp
      · intro hs
        rw [hs, List.take_length]
end Go.Vs

namespace Go.Vs

theorem encV_of {b : Book} {v : List Int} (h : okB b = true) (hv : isVec v = true) : encV b v = (encF b v : Int) := by unfold encV; rw [if_pos ⟨h, hv⟩]
theorem cds_len {b : Book} {v : List Int} : (cds b v).length = 16 := by simp [cds]
theorem cds_get {b : Book} {v : List Int} {i : Nat} (hi : i < 16) : gidx (cds b v) (i : Int) = some (dist 3 (decF b i) v) := by
  rw [gidx_nat (by rw [cds_len]; exact hi)]; simp [cds]
theorem cdV_of {b : Book} {v : List Int} (h : okB b = true) (hv : isVec v = true) : cdV b v = cds b v := by unfold cdV; rw [if_pos ⟨h, hv⟩]
end Go.Vs

namespace Go.Vs

/-! ## Bits -/
end Go.Vs

namespace Go.Vs

/-! ## Opposite vectors -/
/-! ## A plane looks at itself -/
/-! ## Twice a vector -/
end Go.Vs

namespace Go.Vs

/-! ## Buckets -/
end Go.Vs

namespace Go.Vs

theorem topH_perm {k : Nat} {l m : List Hit} (h : l.Perm m) : topH k l = topH k m := by
  unfold topH
  rw [isort_uniq (isort_spec m).1 ((isort_spec m).2.trans h.symm)]
theorem codeHits_nodup {b : Book} {l : List Item} {v : List Int} (hp : l.Pairwise (fun x y => x.1 < y.1)) : (codeHits b l v).Nodup := map_nodup (D := fun x => dist 3 (decF b (encF b x.2.1)) v) hp
theorem implCN_ok {b : Book} {l : List Item} {v : List Int} {k : Int} (sb : SmallB b) (sl : SmallS l) (hv : v.length < 2000000) : M.impl_CodeNearest (b.1, b.2) l v k = some (codeNear b l v k) := by
  unfold M.impl_CodeNearest codeNear
  simp only [implBook_ok sb, validSearch_ok sl hv, Option.bind_some]
  cases hb : okB b with
  | false => simp
  | true =>
    by_cases hk : okQuery l 3 v = true ∧ 1 ≤ k ∧ k ≤ 16
    · obtain ⟨n, rfl⟩ := Int.eq_ofNat_of_zero_le (show 0 ≤ k by omega)
      obtain ⟨ho, _, hvv⟩ := okQuery_iff.1 hk.1
      obtain ⟨hlen, hit, hpw⟩ := okStore_iff.1 ho
      have hk2 : (1 : Int) ≤ (n : Int) ∧ (n : Int) ≤ 16 := hk.2
      have d : decide (okQuery l 3 v = true ∧ (1 : Int) ≤ (n : Int) ∧ (n : Int) ≤ 16) = true := decide_eq_true hk
      have hc : ((true = true ∧ okQuery l 3 v = true) ∧ (1 : Int) ≤ (n : Int) ∧ (n : Int) ≤ 16) := ⟨⟨rfl, hk.1⟩, hk.2⟩
      rw [if_pos hc]
      simp only [d, Bool.not_true, cond_false, Option.bind_some, implCD_ok sb hv, cdV_of hb hvv, Int.toNat_natCast]
      unfold M.impl_nearestBy__impl_CodeNearest_1
      obtain ⟨kept', g1, g2⟩ := by_loop (l := l) (D := fun x => dist 3 (decF b (encF b x.2.1)) v) (n := n) (by omega) (f := fun (s5 : ((Int) × (List (Int × Int))) × (Int)) => (bif decide (s5.2 < (l.length : Int)) then
  (gidx l s5.2).bind fun x10 =>
  (M.impl_CodeNearest_1__p24__p_impl_Book (x10.1, x10.2.1, x10.2.2) (cds b v) (b.1, b.2)).bind fun r25 =>
  (M.impl_nearestHits_offer (s5.1.1, s5.1.2) (x10.1, r25)).bind fun r29 =>
  some (.inl ((r29.1, r29.2), w64 (s5.2 + 1)))
 else
  some (.inr (s5.1.1, s5.1.2)))) hlen (fun i hi kept => by
        have e1 : decide ((i : Int) < (l.length : Int)) = true := decide_eq_true (by omega)
        have hx := isItem_vec (hit _ (List.getElem_mem hi))
        have lx : l[i].2.1.length < 2000000 := by have := (isVec_iff.1 hx).1; omega
        have he := encF_lt (v := l[i].2.1) hb
        unfold M.impl_CodeNearest_1__p24__p_impl_Book
        simp only [e1, cond_true, gidx_nat hi, Option.bind_some, implEnc_ok sb lx, encV_of hb hx, cds_get he, w64_succ (i := i) (by omega)]) (fun kept => by simp)
      rw [g1]
      have hL := topH_len n (codeHits b l v)
      have hl2 := codeHits_len (b := b) (l := l) (v := v)
      simp only [Option.bind_some]
      have := inOrder_ok (topH_asc n (codeHits b l v)) g2 (topH_nodup (codeHits_nodup hpw)) (by omega) (n : Int)
      rw [this]; rfl
    · have d : decide (okQuery l 3 v = true ∧ 1 ≤ k ∧ k ≤ 16) = false := decide_eq_false hk
      have hc : ¬ ((true = true ∧ okQuery l 3 v = true) ∧ 1 ≤ k ∧ k ≤ 16) := fun h => hk ⟨h.1.2, h.2⟩
      rw [if_neg hc]
      simp only [d, Bool.not_true, Bool.not_false, cond_false, cond_true, Option.bind_some]
/-! ## Ranked again -/
theorem codeKeys_nodup {b : Book} {l : List Item} {v : List Int} {m : Nat} (hp : l.Pairwise (fun x y => x.1 < y.1)) : ((topH m (codeHits b l v)).map (·.1)).Nodup := by
  have h1 : ((codeHits b l v).map (·.1)).Nodup := by
    unfold codeHits; rw [List.map_map]
    unfold List.Nodup
    rw [List.pairwise_map]
    exact hp.imp fun h he => by simp only [Function.comp] at he; omega
  have h2 : ((isort (codeHits b l v)).map (·.1)).Nodup := ((isort_spec (codeHits b l v)).2.map (·.1)).nodup_iff.2 h1
  unfold topH
  exact h2.sublist ((List.take_sublist m _).map _)
theorem some_perm {b : Book} {l : List Item} {v : List Int} {m : Nat} (hp : l.Pairwise (fun x y => x.1 < y.1)) :
    (someOf b l v m).Perm (l.filter fun x => (topH m (codeHits b l v)).any fun h => h.1 == x.1) := by
  have hn1 : (someOf b l v m).Nodup := by
    have hk := codeKeys_nodup (b := b) (v := v) (m := m) hp
    have hkey := codeHit_key (b := b) (l := l) (v := v) (many := m)
    unfold someOf
    generalize topH m (codeHits b l v) = H at *
    unfold List.Nodup at hk ⊢
    rw [List.pairwise_map] at hk ⊢
    refine List.Pairwise.imp_of_mem (fun {a c} ha hc hne he => hne ?_) hk
    have e1 := (itemAt_mem (hkey a ha)).2.1
    have e2 := (itemAt_mem (hkey c hc)).2.1
    rw [← e1, ← e2, he]
  have hn2 : (l.filter fun x => (topH m (codeHits b l v)).any fun h => h.1 == x.1).Nodup := by
    refine List.Nodup.sublist List.filter_sublist ?_
    unfold List.Nodup
    exact hp.imp fun h he => by rw [he] at h; omega
  refine (List.perm_ext_iff_of_nodup hn1 hn2).2 fun x => ?_
  rw [List.mem_filter, List.any_eq_true]
  constructor
  · intro hx
    have hxl := someOf_mem x hx
    unfold someOf at hx
    obtain ⟨h, hh, rfl⟩ := List.mem_map.1 hx
    exact ⟨hxl, h, hh, by have := (itemAt_mem (codeHit_key h hh)).2.1; rw [this]; simp⟩
  · rintro ⟨hx, h, hh, he⟩
    have he : h.1 = x.1 := by simpa using he
    unfold someOf
    refine List.mem_map.2 ⟨h, hh, ?_⟩
    obtain ⟨m1, m2, _⟩ := itemAt_mem (codeHit_key h hh)
    have hk : (itemAt l h.1).1 = x.1 := m2.trans he
    generalize itemAt l h.1 = y at *
    obtain ⟨i, hi, rfl⟩ := List.getElem_of_mem m1
    obtain ⟨j, hj, rfl⟩ := List.getElem_of_mem hx
    rcases Nat.lt_trichotomy i j with q | q | q
    · have := List.pairwise_iff_getElem.1 hp i j hi hj q; omega
    · subst q; rfl
    · have := List.pairwise_iff_getElem.1 hp j i hj hi q; omega
theorem contains_ok {H : List Hit} {x : Item} (hl : H.length < 1000000) : M.impl_RerankNearest_1__p_Simpl_Hit (x.1, x.2.1, x.2.2) H = some (H.any fun h => h.1 == x.1) := by
  unfold M.impl_RerankNearest_1__p_Simpl_Hit M.slices_ContainsFunc_impl_Hit_impl_Hit__impl_RerankNearest_1_1 M.slices_IndexFunc_impl_Hit_impl_Hit__impl_RerankNearest_1_1 M.impl_RerankNearest_1_1__p_impl_Item
  rw [loop_first (xs := H) (fun h => h.1 == x.1) (fun i => (i : Int))]
  · cases hf : H.findIdx? (fun h => h.1 == x.1) with
    | none =>
      rw [List.findIdx?_eq_none_iff] at hf
      have : (H.any fun h => h.1 == x.1) = false := by
        rw [List.any_eq_false]; intro y hy; have := hf y hy; simpa using this
      rw [this]; rfl
    | some i =>
      obtain ⟨hi, h1, _⟩ := List.findIdx?_eq_some_iff_getElem.1 hf
      have : (H.any fun h => h.1 == x.1) = true := List.any_eq_true.2 ⟨_, List.getElem_mem hi, h1⟩
      rw [this]
      have d : decide ((0 : Int) ≤ (i : Int)) = true := decide_eq_true (by omega)
      simp [selim, d]
  · intro i hi
    have e1 : decide ((i : Int) < (H.length : Int)) = true := decide_eq_true (by omega)
    simp only [e1, cond_true, gidx_nat hi, Option.bind_some, w64_succ (i := i) (by omega)]
    cases H[i].1 == x.1 <;> rfl
  · simp
theorem implRerank_ok {b : Book} {l : List Item} {v : List Int} {many k : Int} (sb : SmallB b) (sl : SmallS l) (hv : v.length < 2000000) : M.impl_RerankNearest (b.1, b.2) l v many k = some (rerank b l v many k) := by
  unfold M.impl_RerankNearest rerank
  simp only [implBook_ok sb, validSearch_ok sl hv, count_ok, Option.bind_some]
  cases hb : okB b with
  | false => simp
  | true =>
    by_cases hk : okQuery l 3 v = true ∧ 1 ≤ k ∧ k ≤ 16
    · by_cases hm : 1 ≤ many ∧ many ≤ 16
      · obtain ⟨n, rfl⟩ := Int.eq_ofNat_of_zero_le (show 0 ≤ k by omega)
        obtain ⟨m, rfl⟩ := Int.eq_ofNat_of_zero_le (show 0 ≤ many by omega)
        obtain ⟨ho, _, hvv⟩ := okQuery_iff.1 hk.1
        obtain ⟨hlen, hit, hpw⟩ := okStore_iff.1 ho
        have hk2 : (n : Int) ≤ 16 := hk.2.2
        have d1 : decide (okQuery l 3 v = true ∧ (1 : Int) ≤ (n : Int) ∧ (n : Int) ≤ 16) = true := decide_eq_true hk
        have d2 : decide ((1 : Int) ≤ (m : Int) ∧ (m : Int) ≤ 16) = true := decide_eq_true hm
        have hN : codeNear b l v (m : Int) = topH m (codeHits b l v) := by
          unfold codeNear; rw [if_pos ⟨⟨hb, hk.1⟩, hm⟩]; rfl
        rw [if_pos ⟨⟨⟨rfl, hk.1⟩, hm⟩, hk.2⟩]
        simp only [d1, d2, Bool.not_true, cond_false, Option.bind_some, implCN_ok sb sl hv, hN, Int.toNat_natCast]
        have hpm := some_perm (b := b) (v := v) (m := m) hpw
        have hhl : (topH m (codeHits b l v)).length < 1000000 := by rw [topH_len, codeHits_len]; omega
        have hsl := hpm.length_eq
        have hhp : (hitsOf (someOf b l v m) 3 v).Perm (hitsOf (l.filter fun x => (topH m (codeHits b l v)).any fun h => h.1 == x.1) 3 v) := hpm.map _
        rw [topH_perm hhp]
        clear hhp hsl hpm
        generalize topH m (codeHits b l v) = H at *
        unfold M.impl_itemsThat__impl_RerankNearest_1
        rw [Option.bind_assoc]
        refine fold_bind (xs := l) (fun (s : List Item) i => (s, i)) (fun s x => if (H.any fun h => h.1 == x.1) = true then s ++ [x] else s) (fun i s => s = (l.take i).filter fun x => H.any fun h => h.1 == x.1) (fun s => s) (s0 := []) (by simp) ?_ ?_ ?_
        · rintro s i hi rfl
          have e1 : decide ((i : Int) < (l.length : Int)) = true := decide_eq_true (by omega)
          simp only [e1, cond_true, gidx_nat hi, Option.bind_some, contains_ok hhl, w64_succ (i := i) (by omega)]
          have hl : ((l.take i).filter fun x => H.any fun h => h.1 == x.1).length ≤ i := Nat.le_trans (List.length_filter_le _ _) (by simp; omega)
          rw [List.take_succ_eq_append_getElem hi, List.filter_append]
          cases hin : H.any fun h => h.1 == l[i].1 with
          | true =>
            rw [if_pos rfl]
            simp only [cond_true]
            rw [gapp_ok (by simp only [List.length_singleton]; omega)]
            simp [hin]
          | false => simp [hin]
        · intro s _; simp
        · intro hs
          rw [hs, List.take_length, Option.bind_some]
          have hsub : okStore (l.filter fun x => H.any fun h => h.1 == x.1) = true := okStore_sub ho List.filter_sublist
          obtain ⟨hlen2, hit2, hpw2⟩ := okStore_iff.1 hsub
          rw [implAmong_ok (fun x hx => isItem_vec (hit2 x hx)) hvv (hitsOf_nodup hpw2) hlen2 (by omega)]; rfl
      · have d2 : decide (1 ≤ many ∧ many ≤ 16) = false := decide_eq_false hm
        have d1 : decide (okQuery l 3 v = true ∧ 1 ≤ k ∧ k ≤ 16) = true := decide_eq_true hk
        rw [if_neg (fun h => hm h.1.2)]
        simp only [d1, d2, Bool.not_true, Bool.not_false, cond_false, cond_true, Option.bind_some]
    · have d1 : decide (okQuery l 3 v = true ∧ 1 ≤ k ∧ k ≤ 16) = false := decide_eq_false hk
      rw [if_neg (fun h => hk ⟨h.1.1.2, h.2⟩)]
      simp only [d1, Bool.not_true, Bool.not_false, cond_false, cond_true, Option.bind_some]
theorem rerank_len {b : Book} {l : List Item} {v : List Int} {many k : Int} : (rerank b l v many k).length < 2000000 := by
  unfold rerank
  split
  · have := topH_len k.toNat (hitsOf (someOf b l v many.toNat) 3 v)
    omega
  · simp
/-! ## The nearest of a bucket -/
end Go.Vs

namespace Go.Vs

abbrev OkBk (b : Book) : Prop := OkCs b.1 ∧ OkCs b.2
theorem szBook_ok {b : Book} {left : Int} (ha : OkBk b) (h0 : 0 ≤ left) (h1 : left ≤ 1048576) : ∃ s, M.laws_szBook (b.1, b.2) left = some s ∧ (s < 0 ∨ (0 ≤ s ∧ s ≤ left ∧ (b.1.length ≤ 1048576 ∧ ∀ x ∈ b.1, x.length ≤ 1048576) ∧ (b.2.length ≤ 1048576 ∧ ∀ x ∈ b.2, x.length ≤ 1048576))) := by
  unfold M.laws_szBook
  obtain ⟨s, es, hs⟩ := szC_ok (left := left) ha.1 h0 h1
  simp only [es, Option.bind_some]
  rcases hs with hs | ⟨g0, g1, g2, g3⟩
  · exact ⟨-1, by simp [hs], .inl (by omega)⟩
  have hn : ¬ s < 0 := by omega
  obtain ⟨t, et, ht⟩ := szC_ok (left := s) ha.2 g0 (by omega)
  simp only [hn, decide_false, cond_false, et, Option.bind_some]
  rcases ht with ht | ⟨k0, k1, k2, k3⟩
  · exact ⟨-1, by simp [ht], .inl (by omega)⟩
  have hm : ¬ t < 0 := by omega
  exact ⟨t, by simp [hm], .inr ⟨k0, by omega, ⟨g2, g3⟩, k2, k3⟩⟩
section
variable {b : Book} (h : b.1.length ≤ 1048576 ∧ ∀ x ∈ b.1, x.length ≤ 1048576) (g : b.2.length ≤ 1048576 ∧ ∀ x ∈ b.2, x.length ≤ 1048576)
include h g
theorem smallB_of : SmallB b := ⟨smallC_of h.1 h.2, smallC_of g.1 g.2⟩
theorem toBookD_ok : M.laws_toBookD (b.1, b.2) = some (b.1, b.2) := by
  unfold M.laws_toBookD
  simp only [dIntSS_ok h.1 h.2, dIntSS_ok g.1 g.2, Option.bind_some]
theorem eqBook_self : M.laws_eqBook (b.1, b.2) (b.1, b.2) = some true := by
  unfold M.laws_eqBook
  have s := smallB_of h g
  simp only [eqIntSS_self s.1.1 s.1.2, eqIntSS_self s.2.1 s.2.2, Option.bind_some, Bool.not_true, cond_false]
theorem markBook_ok : ∃ r, M.laws_markBook (b.1, b.2) 1 = some r ∧ 1 ≤ r ∧ r ≤ 2200000000000 := by
  unfold M.laws_markBook
  obtain ⟨k, hk, k1, k2⟩ := markIntSD_ok h.1 h.2
  obtain ⟨k', hk', k1', k2'⟩ := markIntSD_at (k := k) g.1 g.2 (by omega) (by omega)
  exact ⟨k', by simp only [hk, hk', Option.bind_some], by omega, by omega⟩
end
theorem law_ExactRerankNearest (b : Book) (l : List Item) (v : List Int) (many n : Int) (ha : OkBk b) (hb : OkIs l) : M.laws_FnExactRerankNearest b l v many n = some true := by
  unfold M.laws_FnExactRerankNearest
  by_cases hc : 1048576 < (v.length : Int)
  · simp [hc]
  have la : v.length ≤ 1048576 := by omega
  have la' : v.length < 2000000 := by omega
  obtain ⟨s, es, hs⟩ := szBook_ok (left := 1048576) ha (by omega) (by omega)
  simp only [hc, decide_false, cond_false, es, Option.bind_some]
  rcases hs with hs | ⟨h0, hle, h1, h2⟩
  · simp [hs]
  have hn : ¬ s < 0 := by omega
  obtain ⟨t, et, ht⟩ := szItemS_ok (left := s) hb.1 (fun x hx => (hb.2 x hx).2.1.1) h0 hle
  simp only [hn, decide_false, cond_false, et, Option.bind_some]
  rcases ht with ht | ⟨g0, g1, g2⟩
  · simp [ht]
  have hm : ¬ t < 0 := by omega
  have sb := smallB_of h1 h2
  have sl : SmallS l := ⟨by omega, g2⟩
  obtain ⟨k, hk, k1, k2⟩ := markBook_ok h1 h2
  obtain ⟨k', hk', k1', k2'⟩ := markItemD_at (k := k) g1 g2 (by omega) (by omega)
  have hn1 : ¬ (k' + (v.length : Int)) < 0 := by omega
  have lm := rerank_len (b := b) (l := l) (v := v) (many := many) (k := n)
  have hn2 : ¬ (1 + 2 * ((rerank b l v many n).length : Int)) < 0 := by omega
  simp only [hm, decide_false, cond_false, toBookD_ok h1 h2, dItemS_ok g1 g2, toIntS_ok la, Option.bind_some, specRerank_ok sb sl la', implRerank_ok sb sl la', eqHitS_self lm, eqIntS_ok la', decide_true, Bool.not_true, eqBook_self h1 h2, eqItemS_self (show l.length < 2000000 by omega) sl.hb, hk, hk', markIntS_ok (k := k') la' (by omega) (by omega), hn1, markHitS_ok lm one0 one1, heldHitS_ok lm one0 one1, hn2, bne_self_eq_false]
end Go.Vs
