/- Plain facts of what the functions compute. -/
import Derived.Test.YtfcemgcmpcmgcabGreatDoorExactRunSessionEng1
import Derived.Test.YtfcemgcmpcmgcabGreatDoorExactRunSessionLib1
set_option linter.unusedVariables false
set_option linter.unusedSimpArgs false
namespace Go.Vs

theorem loop_run {S R : Type} {f : S → Option (S ⊕ R)} {r : R} (k : Nat) (st : Nat → S) (hs : ∀ i, i < k → f (st i) = some (.inl (st (i + 1)))) (he : f (st k) = some (.inr r)) : loopM f (st 0) = some r := by
  induction k generalizing st with
  | zero => rw [loopM_eq, he]; rfl
  | succ k ih =>
    rw [loopM_eq, hs 0 (by omega)]
    exact ih (fun i => st (i + 1)) (fun i hi => hs (i + 1) (by omega)) he

theorem w64_nat {n : Nat} (h : n < 9223372036854775808) : w64 (n : Int) = n := w64_id (by omega) (by omega)
theorem gidx_nat {α : Type} {xs : List α} {i : Nat} (h : i < xs.length) : gidx xs (i : Int) = some xs[i] := by
  unfold gidx
  rw [if_pos (by omega)]
  simp [h]
theorem gapp_ok {α : Type} {xs ys : List α} (h : xs.length + ys.length ≤ 2147483648) : gapp xs ys = some (xs ++ ys) := by unfold gapp; rw [if_pos h]
theorem gslice_ok {α : Type} {xs : List α} {l h : Int} (h0 : 0 ≤ l) (h1 : l ≤ h) (h2 : h ≤ xs.length) : gslice xs l h = some ((xs.take h.toNat).drop l.toNat) := by
  unfold gslice; rw [if_pos ⟨h0, h1, h2⟩]
theorem gmake_ok {α : Type} {k : Int} {z : α} (h0 : 0 ≤ k) (h1 : k ≤ 2147483648) : gmake k z = some (List.replicate k.toNat z) := by unfold gmake; rw [if_pos ⟨h0, h1⟩]
theorem garr_ok {α : Type} {k : Nat} {xs : List α} (h : k ≤ xs.length) : garr k xs = some (xs.take k) := by unfold garr; rw [if_pos h]

theorem loop_all {α R : Type} {xs : List α} {P : α → Bool} {r : R} {f : Int → Option (Int ⊕ (Unit ⊕ R))} (hs : ∀ i (h : i < xs.length), f (i : Int) = some (if P xs[i] then .inl ((i : Int) + 1) else .inr (.inr r))) (he : f (xs.length : Int) = some (.inr (.inl ()))) :
    loopM f 0 = some (if xs.all P then .inl () else .inr r) := by
  have key : ∀ m k : Nat, k + m = xs.length → loopM f (k : Int) = some (if (xs.drop k).all P then .inl () else .inr r) := by
    intro m
    induction m with
    | zero =>
      intro k hk
      have : k = xs.length := by omega
      subst this
      rw [loopM_eq, he]; simp [selim]
    | succ m ih =>
      intro k hk
      have hlt : k < xs.length := by omega
      rw [loopM_eq, hs k hlt, List.drop_eq_getElem_cons hlt]
      by_cases hp : P xs[k] = true
      · rw [if_pos hp]
        have := ih (k + 1) (by omega)
        simp only [Int.natCast_add, Int.cast_ofNat_Int] at this
        simp only [List.all_cons, hp, Bool.true_and, selim, this, Option.bind_some]
      · rw [if_neg hp]
        simp only [List.all_cons, Bool.not_eq_true] at hp ⊢
        simp only [hp, Bool.false_and, selim, Option.bind_some]; rfl
  have := key xs.length 0 (by omega)
  simpa using this
end Go.Vs

namespace Go.Vs

def Good (k : Nat) (r : List UInt8 × Int) : Prop := r.1.length ≤ 2000 ∧ 0 ≤ r.2 ∧ r.2 ≤ k
theorem Good.mono {k m : Nat} {r : List UInt8 × Int} (h : Good k r) (hm : k ≤ m) : Good m r := ⟨h.1, h.2.1, by have := h.2.2; omega⟩

def isVec (v : List Int) : Bool := decide (v.length = 4) && v.all fun x => decide (-100 ≤ x) && decide (x ≤ 100)
theorem isVec_iff {v : List Int} : isVec v = true ↔ v.length = 4 ∧ ∀ x ∈ v, -100 ≤ x ∧ x ≤ 100 := by
  unfold isVec; simp
theorem isVec_four {v : List Int} (h : isVec v = true) : ∃ a b c d, v = [a, b, c, d] ∧ (-100 ≤ a ∧ a ≤ 100) ∧ (-100 ≤ b ∧ b ≤ 100) ∧ (-100 ≤ c ∧ c ≤ 100) ∧ (-100 ≤ d ∧ d ≤ 100) := by
  obtain ⟨h1, h2⟩ := isVec_iff.1 h
  match v, h1 with
  | [a, b, c, d], _ => exact ⟨a, b, c, d, rfl, h2 a (by simp), h2 b (by simp), h2 c (by simp), h2 d (by simp)⟩

end Go.Vs
namespace Go.Vs
def Near (v : List Int) : Prop := v.length ≤ 5 ∧ ∀ x ∈ v, -101 ≤ x ∧ x ≤ 101
theorem copy_ok {v : List Int} (h : v.length ≤ 1000000) : M.spec_copyInts v = some v := by
  unfold M.spec_copyInts
  rw [gapp_ok (by simp; omega)]; rfl
theorem implCoords_ok (v : List Int) (hb : v.length < 2000000) : M.impl_validCoords v = some (v.all fun x => decide (-100 ≤ x) && decide (x ≤ 100)) := by
  unfold M.impl_validCoords
  rw [loop_all (xs := v) (P := fun x => decide (-100 ≤ x) && decide (x ≤ 100)) (r := false)]
  · by_cases ha : (v.all fun x => decide (-100 ≤ x) && decide (x ≤ 100)) = true
    · simp only [ha, if_true, Option.bind_some, selim]
    · simp only [Bool.not_eq_true] at ha
      simp only [ha]; simp [selim]
  · intro i h
    have e1 : decide ((i : Int) < (v.length : Int)) = true := by simpa using h
    have e2 : w64 ((i : Int) + 1) = (i : Int) + 1 := w64_id (by omega) (by omega)
    simp only [e1, cond_true, gidx_nat h, Option.bind_some, e2]
    by_cases c1 : v[i] < -100
    · have c2 : ¬ (-100 ≤ v[i]) := by omega
      simp [c1, c2]
    · by_cases c3 : 100 < v[i]
      · have c4 : ¬ (v[i] ≤ 100) := by omega
        simp [c1, c3, c4]
      · simp [c1, c3, show -100 ≤ v[i] by omega, show v[i] ≤ 100 by omega]
  · simp
theorem impl_valid (v : List Int) (hb : v.length < 2000000) : M.impl_ValidVector v = some (isVec v) := by
  unfold M.impl_ValidVector
  simp only [implCoords_ok v hb, Option.bind_some]
  unfold isVec
  by_cases hl : v.length = 4
  · have e : ((v.length : Int) == 4) = true := by simp; omega
    rw [e, cond_true, decide_eq_true hl, Bool.true_and]
  · have e : ((v.length : Int) == 4) = false := by simp; omega
    rw [e, cond_false, decide_eq_false hl, Bool.false_and]
theorem spec_inR (n l h : Int) : M.spec_inRange n l h = some (decide (l ≤ n) && decide (n ≤ h)) := by
  unfold M.spec_inRange
  by_cases h1 : l ≤ n <;> simp [h1]
theorem spec_all (v : List Int) (l h : Int) (hb : v.length < 2000000) : M.spec_allIn v l h = some (v.all fun x => decide (l ≤ x) && decide (x ≤ h)) := by
  unfold M.spec_allIn
  rw [loop_all (xs := v) (P := fun x => decide (l ≤ x) && decide (x ≤ h)) (r := false)]
  · by_cases ha : (v.all fun x => decide (l ≤ x) && decide (x ≤ h)) = true
    · simp only [ha, if_true, Option.bind_some, selim]
    · simp only [Bool.not_eq_true] at ha
      simp [ha, selim]
  · intro i hi
    have e1 : decide ((i : Int) < (v.length : Int)) = true := by simpa using hi
    have e2 : w64 ((i : Int) + 1) = (i : Int) + 1 := w64_id (by omega) (by omega)
    simp only [e1, cond_true, gidx_nat hi, Option.bind_some, e2, spec_inR]
    cases (decide (l ≤ v[i]) && decide (v[i] ≤ h)) <;> rfl
  · simp
theorem spec_isVec (v : List Int) (hb : v.length < 2000000) : M.spec_isVector v = some (isVec v) := by
  unfold M.spec_isVector
  by_cases hl : v.length = 4
  · have e : ((v.length : Int) == 4) = true := by simp; omega
    simp [e, spec_all v _ _ hb, isVec, hl]
  · have e : ((v.length : Int) == 4) = false := by simp; omega
    simp [e, isVec, hl]
end Go.Vs

namespace Go.Vs

end Go.Vs

namespace Go.Vs

theorem loop4 {S R : Type} {f : S → Option (S ⊕ R)} {s0 s1 s2 s3 s4 : S} {r : R} (h0 : f s0 = some (.inl s1)) (h1 : f s1 = some (.inl s2)) (h2 : f s2 = some (.inl s3)) (h3 : f s3 = some (.inl s4)) (h4 : f s4 = some (.inr r)) : loopM f s0 = some r := by
  rw [loopM_eq, h0, Option.bind_some, selim, loopM_eq, h1, Option.bind_some, selim, loopM_eq, h2, Option.bind_some, selim, loopM_eq, h3, Option.bind_some, selim, loopM_eq, h4]; rfl
theorem gi0 {α : Type} {a : α} {l : List α} : gidx (a :: l) 0 = some a := gidx_nat (i := 0) (by simp)
theorem gi1 {α : Type} {a b : α} {l : List α} : gidx (a :: b :: l) 1 = some b := gidx_nat (i := 1) (by simp)
theorem gi2 {α : Type} {a b c : α} {l : List α} : gidx (a :: b :: c :: l) 2 = some c := gidx_nat (i := 2) (by simp)
theorem gi3 {α : Type} {a b c d : α} {l : List α} : gidx (a :: b :: c :: d :: l) 3 = some d := gidx_nat (i := 3) (by simp)
theorem i01 : w64 ((0 : Int) + 1) = 1 := w64_id (by omega) (by omega)
theorem i12 : w64 ((1 : Int) + 1) = 2 := w64_id (by omega) (by omega)
theorem i23 : w64 ((2 : Int) + 1) = 3 := w64_id (by omega) (by omega)
theorem i34 : w64 ((3 : Int) + 1) = 4 := w64_id (by omega) (by omega)
theorem d04 : decide ((0 : Int) < 4) = true := rfl
theorem d14 : decide ((1 : Int) < 4) = true := rfl
theorem d24 : decide ((2 : Int) < 4) = true := rfl
theorem d34 : decide ((3 : Int) < 4) = true := rfl
theorem d44 : decide ((4 : Int) < 4) = false := rfl
theorem l4 {α : Type} {a b c d : α} : (([a, b, c, d] : List α).length : Int) = 4 := rfl

def gap (x y : Int) : Int := max (x - y) (y - x)
theorem gap_nonneg (x y : Int) : 0 ≤ gap x y := by unfold gap; omega
def Co (x : Int) : Prop := -100 ≤ x ∧ x ≤ 100
theorem gap_le {x y : Int} (hx : Co x) (hy : Co y) : gap x y ≤ 200 := by unfold gap; unfold Co at hx hy; omega
theorem sq_bounds {g : Int} (h0 : 0 ≤ g) (h : g ≤ 200) : 0 ≤ g * g ∧ g ≤ g * g ∧ g * g ≤ 40000 := by
  refine ⟨Int.mul_nonneg h0 h0, ?_, ?_⟩
  · by_cases h1 : g = 0
    · subst h1; simp
    · have := Int.mul_le_mul_of_nonneg_right (show (1 : Int) ≤ g by omega) h0; omega
  · have := Int.mul_le_mul h h h0 (by omega); omega
def dk (k g0 g1 g2 g3 : Int) : Int :=
  if k = 1 then g0 + g1 + g2 + g3 else if k = 2 then max (max (max (max 0 g0) g1) g2) g3 else if k = 3 then g0 * g0 + g1 * g1 + g2 * g2 + g3 * g3 else if k = 4 then min g0 1 + min g1 1 + min g2 1 + min g3 1 else -1

theorem distanceOf_ok (k : Int) {g0 g1 g2 g3 : Int} (h0 : 0 ≤ g0) (h0' : g0 ≤ 200) (h1 : 0 ≤ g1) (h1' : g1 ≤ 200) (h2 : 0 ≤ g2) (h2' : g2 ≤ 200) (h3 : 0 ≤ g3) (h3' : g3 ≤ 200) :
    M.impl_distanceOf k [g0, g1, g2, g3] = some (dk k g0 g1 g2 g3) := by
  unfold M.impl_distanceOf
  have s0 := sq_bounds h0 h0'
  have s1 := sq_bounds h1 h1'
  have s2 := sq_bounds h2 h2'
  have s3 := sq_bounds h3 h3'
  by_cases k1 : k = 1
  · subst k1
    have e0 : w64 (0 + g0) = g0 := by rw [w64_id (by omega) (by omega)]; omega
    have e1 : w64 (g0 + g1) = g0 + g1 := w64_id (by omega) (by omega)
    have e2 : w64 (g0 + g1 + g2) = g0 + g1 + g2 := w64_id (by omega) (by omega)
    have e3 : w64 (g0 + g1 + g2 + g3) = g0 + g1 + g2 + g3 := w64_id (by omega) (by omega)
    rw [loop4 (s1 := (g0, 1)) (s2 := (g0 + g1, 2)) (s3 := (g0 + g1 + g2, 3)) (s4 := (g0 + g1 + g2 + g3, 4)) (r := .inl (g0 + g1 + g2 + g3))]
    · rfl
    · simp only [d04, gi0, i01, e0, selim, cond_true, Option.bind_some]; rfl
    · simp only [d14, gi1, i12, e1, selim, cond_true, Option.bind_some]; rfl
    · simp only [d24, gi2, i23, e2, selim, cond_true, Option.bind_some]; rfl
    · simp only [d34, gi3, i34, e3, selim, cond_true, Option.bind_some]; rfl
    · simp [d44]
  by_cases k2 : k = 2
  · subst k2
    rw [loop4 (s1 := (max 0 g0, 1)) (s2 := (max (max 0 g0) g1, 2)) (s3 := (max (max (max 0 g0) g1) g2, 3)) (s4 := (max (max (max (max 0 g0) g1) g2) g3, 4)) (r := .inl (max (max (max (max 0 g0) g1) g2) g3))]
    · rfl
    · simp only [d04, gi0, i01, selim, cond_true, Option.bind_some]; rfl
    · simp only [d14, gi1, i12, selim, cond_true, Option.bind_some]; rfl
    · simp only [d24, gi2, i23, selim, cond_true, Option.bind_some]; rfl
    · simp only [d34, gi3, i34, selim, cond_true, Option.bind_some]; rfl
    · simp [d44]
  by_cases k3 : k = 3
  · subst k3
    have q0 : w64 (g0 * g0) = g0 * g0 := w64_id (by omega) (by omega)
    have q1 : w64 (g1 * g1) = g1 * g1 := w64_id (by omega) (by omega)
    have q2 : w64 (g2 * g2) = g2 * g2 := w64_id (by omega) (by omega)
    have q3 : w64 (g3 * g3) = g3 * g3 := w64_id (by omega) (by omega)
    have e0 : w64 (0 + g0 * g0) = g0 * g0 := by rw [w64_id (by omega) (by omega)]; omega
    have e1 : w64 (g0 * g0 + g1 * g1) = g0 * g0 + g1 * g1 := w64_id (by omega) (by omega)
    have e2 : w64 (g0 * g0 + g1 * g1 + g2 * g2) = g0 * g0 + g1 * g1 + g2 * g2 := w64_id (by omega) (by omega)
    have e3 : w64 (g0 * g0 + g1 * g1 + g2 * g2 + g3 * g3) = g0 * g0 + g1 * g1 + g2 * g2 + g3 * g3 := w64_id (by omega) (by omega)
    rw [loop4 (s1 := (g0 * g0, 1)) (s2 := (g0 * g0 + g1 * g1, 2)) (s3 := (g0 * g0 + g1 * g1 + g2 * g2, 3)) (s4 := (g0 * g0 + g1 * g1 + g2 * g2 + g3 * g3, 4)) (r := .inl (g0 * g0 + g1 * g1 + g2 * g2 + g3 * g3))]
    · rfl
    · simp only [d04, gi0, i01, e0, q0, selim, cond_true, Option.bind_some]; rfl
    · simp only [d14, gi1, i12, e1, q1, selim, cond_true, Option.bind_some]; rfl
    · simp only [d24, gi2, i23, e2, q2, selim, cond_true, Option.bind_some]; rfl
    · simp only [d34, gi3, i34, e3, q3, selim, cond_true, Option.bind_some]; rfl
    · simp [d44]
  by_cases k4 : k = 4
  · subst k4
    have e0 : w64 (0 + min g0 1) = min g0 1 := by rw [w64_id (by omega) (by omega)]; omega
    have e1 : w64 (min g0 1 + min g1 1) = min g0 1 + min g1 1 := w64_id (by omega) (by omega)
    have e2 : w64 (min g0 1 + min g1 1 + min g2 1) = min g0 1 + min g1 1 + min g2 1 := w64_id (by omega) (by omega)
    have e3 : w64 (min g0 1 + min g1 1 + min g2 1 + min g3 1) = min g0 1 + min g1 1 + min g2 1 + min g3 1 := w64_id (by omega) (by omega)
    rw [loop4 (s1 := (min g0 1, 1)) (s2 := (min g0 1 + min g1 1, 2)) (s3 := (min g0 1 + min g1 1 + min g2 1, 3)) (s4 := (min g0 1 + min g1 1 + min g2 1 + min g3 1, 4)) (r := .inl (min g0 1 + min g1 1 + min g2 1 + min g3 1))]
    · rfl
    · simp only [d04, gi0, i01, e0, selim, cond_true, Option.bind_some]; rfl
    · simp only [d14, gi1, i12, e1, selim, cond_true, Option.bind_some]; rfl
    · simp only [d24, gi2, i23, e2, selim, cond_true, Option.bind_some]; rfl
    · simp only [d34, gi3, i34, e3, selim, cond_true, Option.bind_some]; rfl
    · simp [d44]
  have b1 : (k == 1) = false := by simpa using k1
  have b2 : (k == 2) = false := by simpa using k2
  have b3 : (k == 3) = false := by simpa using k3
  have b4 : (k == 4) = false := by simpa using k4
  rw [loopM_eq]
  simp [d04, gi0, b1, b2, b3, b4, selim, dk, k1, k2, k3, k4]

theorem gapsOf_ok {a b c d x y z w : Int} (ha : Co a) (hb : Co b) (hc : Co c) (hd : Co d) (hx : Co x) (hy : Co y) (hz : Co z) (hw : Co w) :
    M.impl_gapsOf [a, b, c, d] [x, y, z, w] = some [gap a x, gap b y, gap c z, gap d w] := by
  have e : ∀ p q, Co p → Co q → max (w64 (p - q)) (w64 (q - p)) = gap p q := by
    intro p q hp hq
    unfold Co at hp hq
    rw [w64_id (n := p - q) (by omega) (by omega), w64_id (n := q - p) (by omega) (by omega)]; rfl
  unfold M.impl_gapsOf
  rw [loop4 (s1 := ([gap a x, 0, 0, 0], 1)) (s2 := ([gap a x, gap b y, 0, 0], 2)) (s3 := ([gap a x, gap b y, gap c z, 0], 3)) (s4 := ([gap a x, gap b y, gap c z, gap d w], 4)) (r := [gap a x, gap b y, gap c z, gap d w])]
  · rfl
  · simp only [show List.replicate 4 (0 : Int) = [0, 0, 0, 0] from rfl, d04, gi0, i01, cond_true, Option.bind_some, e a x ha hx]; rfl
  · simp only [d14, gi1, i12, cond_true, Option.bind_some, e b y hb hy]; rfl
  · simp only [d24, gi2, i23, cond_true, Option.bind_some, e c z hc hz]; rfl
  · simp only [d34, gi3, i34, cond_true, Option.bind_some, e d w hd hw]; rfl
  · simp only [d44, cond_false]

theorem specDist_ok {k : Int} (hk : 1 ≤ k ∧ k ≤ 4) {a b c d x y z w : Int} (ha : Co a) (hb : Co b) (hc : Co c) (hd : Co d) (hx : Co x) (hy : Co y) (hz : Co z) (hw : Co w) :
    M.spec_dist k [a, b, c, d] [x, y, z, w] = some (dk k (gap a x) (gap b y) (gap c z) (gap d w)) := by
  have e : ∀ p q, Co p → Co q → M.spec_size (w64 (p - q)) = some (gap p q) := by
    intro p q hp hq
    unfold Co at hp hq
    unfold M.spec_size
    rw [w64_id (n := p - q) (by omega) (by omega), w64_id (n := 0 - (p - q)) (by omega) (by omega)]
    unfold gap
    congr 1; omega
  have t : ∀ g : Int, 0 ≤ g → M.spec_toInt (decide (0 < g)) = some (min g 1) := by
    intro g hg
    unfold M.spec_toInt
    by_cases h : 0 < g
    · simp [h]; omega
    · simp [h]; omega
  have ea := e a x ha hx
  have eb := e b y hb hy
  have ec := e c z hc hz
  have ed := e d w hd hw
  have h0 := gap_nonneg a x
  have h1 := gap_nonneg b y
  have h2 := gap_nonneg c z
  have h3 := gap_nonneg d w
  have h0' := gap_le ha hx
  have h1' := gap_le hb hy
  have h2' := gap_le hc hz
  have h3' := gap_le hd hw
  generalize gap a x = g0 at *
  generalize gap b y = g1 at *
  generalize gap c z = g2 at *
  generalize gap d w = g3 at *
  have s0 := sq_bounds h0 h0'
  have s1 := sq_bounds h1 h1'
  have s2 := sq_bounds h2 h2'
  have s3 := sq_bounds h3 h3'
  unfold M.spec_dist
  by_cases k1 : k = 1
  · subst k1
    have e0 : w64 (0 + g0) = g0 := by rw [w64_id (by omega) (by omega)]; omega
    have e1 : w64 (g0 + g1) = g0 + g1 := w64_id (by omega) (by omega)
    have e2 : w64 (g0 + g1 + g2) = g0 + g1 + g2 := w64_id (by omega) (by omega)
    have e3 : w64 (g0 + g1 + g2 + g3) = g0 + g1 + g2 + g3 := w64_id (by omega) (by omega)
    rw [loop4 (s1 := (g0, 1)) (s2 := (g0 + g1, 2)) (s3 := (g0 + g1 + g2, 3)) (s4 := (g0 + g1 + g2 + g3, 4)) (r := g0 + g1 + g2 + g3)]
    · rfl
    · simp only [l4, d04, gi0, i01, e0, ea, cond_true, Option.bind_some]; rfl
    · simp only [l4, d14, gi1, i12, e1, eb, cond_true, Option.bind_some]; rfl
    · simp only [l4, d24, gi2, i23, e2, ec, cond_true, Option.bind_some]; rfl
    · simp only [l4, d34, gi3, i34, e3, ed, cond_true, Option.bind_some]; rfl
    · simp [l4, d44]
  by_cases k2 : k = 2
  · subst k2
    rw [loop4 (s1 := (max 0 g0, 1)) (s2 := (max (max 0 g0) g1, 2)) (s3 := (max (max (max 0 g0) g1) g2, 3)) (s4 := (max (max (max (max 0 g0) g1) g2) g3, 4)) (r := max (max (max (max 0 g0) g1) g2) g3)]
    · rfl
    · simp only [l4, d04, gi0, i01, ea, cond_true, Option.bind_some]; rfl
    · simp only [l4, d14, gi1, i12, eb, cond_true, Option.bind_some]; rfl
    · simp only [l4, d24, gi2, i23, ec, cond_true, Option.bind_some]; rfl
    · simp only [l4, d34, gi3, i34, ed, cond_true, Option.bind_some]; rfl
    · simp [l4, d44]
  by_cases k3 : k = 3
  · subst k3
    have q0 : w64 (g0 * g0) = g0 * g0 := w64_id (by omega) (by omega)
    have q1 : w64 (g1 * g1) = g1 * g1 := w64_id (by omega) (by omega)
    have q2 : w64 (g2 * g2) = g2 * g2 := w64_id (by omega) (by omega)
    have q3 : w64 (g3 * g3) = g3 * g3 := w64_id (by omega) (by omega)
    have e0 : w64 (0 + g0 * g0) = g0 * g0 := by rw [w64_id (by omega) (by omega)]; omega
    have e1 : w64 (g0 * g0 + g1 * g1) = g0 * g0 + g1 * g1 := w64_id (by omega) (by omega)
    have e2 : w64 (g0 * g0 + g1 * g1 + g2 * g2) = g0 * g0 + g1 * g1 + g2 * g2 := w64_id (by omega) (by omega)
    have e3 : w64 (g0 * g0 + g1 * g1 + g2 * g2 + g3 * g3) = g0 * g0 + g1 * g1 + g2 * g2 + g3 * g3 := w64_id (by omega) (by omega)
    rw [loop4 (s1 := (g0 * g0, 1)) (s2 := (g0 * g0 + g1 * g1, 2)) (s3 := (g0 * g0 + g1 * g1 + g2 * g2, 3)) (s4 := (g0 * g0 + g1 * g1 + g2 * g2 + g3 * g3, 4)) (r := g0 * g0 + g1 * g1 + g2 * g2 + g3 * g3)]
    · rfl
    · simp only [l4, d04, gi0, i01, e0, q0, ea, cond_true, Option.bind_some]; rfl
    · simp only [l4, d14, gi1, i12, e1, q1, eb, cond_true, Option.bind_some]; rfl
    · simp only [l4, d24, gi2, i23, e2, q2, ec, cond_true, Option.bind_some]; rfl
    · simp only [l4, d34, gi3, i34, e3, q3, ed, cond_true, Option.bind_some]; rfl
    · simp [l4, d44]
  · have k4 : k = 4 := by omega
    subst k4
    have e0 : w64 (0 + min g0 1) = min g0 1 := by rw [w64_id (by omega) (by omega)]; omega
    have e1 : w64 (min g0 1 + min g1 1) = min g0 1 + min g1 1 := w64_id (by omega) (by omega)
    have e2 : w64 (min g0 1 + min g1 1 + min g2 1) = min g0 1 + min g1 1 + min g2 1 := w64_id (by omega) (by omega)
    have e3 : w64 (min g0 1 + min g1 1 + min g2 1 + min g3 1) = min g0 1 + min g1 1 + min g2 1 + min g3 1 := w64_id (by omega) (by omega)
    rw [loop4 (s1 := (min g0 1, 1)) (s2 := (min g0 1 + min g1 1, 2)) (s3 := (min g0 1 + min g1 1 + min g2 1, 3)) (s4 := (min g0 1 + min g1 1 + min g2 1 + min g3 1, 4)) (r := min g0 1 + min g1 1 + min g2 1 + min g3 1)]
    · rfl
    · simp only [l4, d04, gi0, i01, e0, ea, t g0 h0, cond_true, Option.bind_some]; simp only [show ((4 : Int) == 1) = false from rfl, show ((4 : Int) == 2) = false from rfl, show ((4 : Int) == 3) = false from rfl, cond_false, Option.bind_some, t g0 h0, e0]
    · simp only [l4, d14, gi1, i12, e1, eb, t g1 h1, cond_true, Option.bind_some]; simp only [show ((4 : Int) == 1) = false from rfl, show ((4 : Int) == 2) = false from rfl, show ((4 : Int) == 3) = false from rfl, cond_false, Option.bind_some, t g1 h1, e1]
    · simp only [l4, d24, gi2, i23, e2, ec, t g2 h2, cond_true, Option.bind_some]; simp only [show ((4 : Int) == 1) = false from rfl, show ((4 : Int) == 2) = false from rfl, show ((4 : Int) == 3) = false from rfl, cond_false, Option.bind_some, t g2 h2, e2]
    · simp only [l4, d34, gi3, i34, e3, ed, t g3 h3, cond_true, Option.bind_some]; simp only [show ((4 : Int) == 1) = false from rfl, show ((4 : Int) == 2) = false from rfl, show ((4 : Int) == 3) = false from rfl, cond_false, Option.bind_some, t g3 h3, e3]
    · simp [l4, d44]
end Go.Vs

namespace Go.Vs

def dist (k : Int) (a b : List Int) : Int :=
  if isVec a = true ∧ isVec b = true then dk k (gap (a.getD 0 0) (b.getD 0 0)) (gap (a.getD 1 0) (b.getD 1 0)) (gap (a.getD 2 0) (b.getD 2 0)) (gap (a.getD 3 0) (b.getD 3 0)) else -1
theorem dist_vec {k : Int} {a b c d x y z w : Int} (ha : isVec [a, b, c, d] = true) (hb : isVec [x, y, z, w] = true) : dist k [a, b, c, d] [x, y, z, w] = dk k (gap a x) (gap b y) (gap c z) (gap d w) := by
  unfold dist; rw [if_pos ⟨ha, hb⟩]; rfl
theorem isVec_cut {v : List Int} (h : isVec v = true) : ∃ a b c d, v = [a, b, c, d] ∧ Co a ∧ Co b ∧ Co c ∧ Co d := isVec_four h

theorem implDistance_ok (k : Int) {a b : List Int} (ha : a.length < 2000000) (hb : b.length < 2000000) : M.impl_Distance k a b = some (dist k a b) := by
  unfold M.impl_Distance
  simp only [impl_valid a ha, Option.bind_some]
  by_cases va : isVec a = true
  · simp only [va, Bool.not_true, cond_false, impl_valid b hb, Option.bind_some]
    by_cases vb : isVec b = true
    · simp only [vb, Bool.not_true, cond_false]
      obtain ⟨x0, x1, x2, x3, rfl, c0, c1, c2, c3⟩ := isVec_cut va
      obtain ⟨y0, y1, y2, y3, rfl, e0, e1, e2, e3⟩ := isVec_cut vb
      rw [dist_vec va vb, garr_ok (by simp), garr_ok (by simp)]
      simp only [Option.bind_some, List.take_succ_cons, List.take_zero, gapsOf_ok c0 c1 c2 c3 e0 e1 e2 e3]
      rw [distanceOf_ok k (gap_nonneg _ _) (gap_le c0 e0) (gap_nonneg _ _) (gap_le c1 e1) (gap_nonneg _ _) (gap_le c2 e2) (gap_nonneg _ _) (gap_le c3 e3)]
      rfl
    · have vb' : isVec b = false := by simpa using vb
      simp [vb', dist]
  · have va' : isVec a = false := by simpa using va
    simp [va', dist]
structure Gaps (g0 g1 g2 g3 : Int) : Prop where
  n0 : 0 ≤ g0
  n1 : 0 ≤ g1
  n2 : 0 ≤ g2
  n3 : 0 ≤ g3
  m0 : g0 ≤ 200
  m1 : g1 ≤ 200
  m2 : g2 ≤ 200
  m3 : g3 ≤ 200
theorem gaps_of {a b c d x y z w : Int} (c0 : Co a) (c1 : Co b) (c2 : Co c) (c3 : Co d) (e0 : Co x) (e1 : Co y) (e2 : Co z) (e3 : Co w) : Gaps (gap a x) (gap b y) (gap c z) (gap d w) :=
  ⟨gap_nonneg _ _, gap_nonneg _ _, gap_nonneg _ _, gap_nonneg _ _, gap_le c0 e0, gap_le c1 e1, gap_le c2 e2, gap_le c3 e3⟩
theorem dk_range {k g0 g1 g2 g3 : Int} (h : Gaps g0 g1 g2 g3) : -1 ≤ dk k g0 g1 g2 g3 ∧ dk k g0 g1 g2 g3 < 1000000 := by
  obtain ⟨n0, n1, n2, n3, m0, m1, m2, m3⟩ := h
  have s0 := sq_bounds n0 m0
  have s1 := sq_bounds n1 m1
  have s2 := sq_bounds n2 m2
  have s3 := sq_bounds n3 m3
  unfold dk
  split
  · omega
  split
  · omega
  split
  · generalize g0 * g0 = q0 at *
    generalize g1 * g1 = q1 at *
    generalize g2 * g2 = q2 at *
    generalize g3 * g3 = q3 at *
    omega
  split <;> omega
end Go.Vs

namespace Go.Vs

end Go.Vs

namespace Go.Vs

end Go.Vs

namespace Go.Vs

theorem loop_scan {S α R T : Type} {xs : List α} {P : α → Bool} {st : Nat → S} {t : T} {r : R} {f : S × Int → Option ((S × Int) ⊕ (T ⊕ R))}
    (hs : ∀ i (h : i < xs.length), (∀ x ∈ xs.take i, P x = true) → P xs[i] = true → f (st i, (i : Int)) = some (.inl (st (i + 1), (i : Int) + 1)))
    (hb : ∀ i (h : i < xs.length), (∀ x ∈ xs.take i, P x = true) → P xs[i] = false → f (st i, (i : Int)) = some (.inr (.inr r)))
    (he : (∀ x ∈ xs, P x = true) → f (st xs.length, (xs.length : Int)) = some (.inr (.inl t))) :
    loopM f (st 0, 0) = some (if xs.all P then .inl t else .inr r) := by
  have key : ∀ m k : Nat, k + m = xs.length → (∀ x ∈ xs.take k, P x = true) → loopM f (st k, (k : Int)) = some (if (xs.drop k).all P then .inl t else .inr r) := by
    intro m
    induction m with
    | zero =>
      intro k hk hp
      have : k = xs.length := by omega
      subst this
      rw [List.take_length] at hp
      rw [loopM_eq, he hp]; simp [selim]
    | succ m ih =>
      intro k hk hpre
      have hlt : k < xs.length := by omega
      rw [loopM_eq, List.drop_eq_getElem_cons hlt]
      by_cases hp : P xs[k] = true
      · rw [hs k hlt hpre hp]
        have := ih (k + 1) (by omega) (by
          intro x hx
          rw [List.take_succ_eq_append_getElem hlt] at hx
          rcases List.mem_append.1 hx with h | h
          · exact hpre x h
          · simp only [List.mem_singleton] at h; subst h; exact hp)
        simp only [Int.natCast_add, Int.cast_ofNat_Int] at this
        simp only [List.all_cons, hp, Bool.true_and, selim, this, Option.bind_some]
      · simp only [Bool.not_eq_true] at hp
        rw [hb k hlt hpre hp]
        simp only [List.all_cons, hp, Bool.false_and, selim, Option.bind_some]; rfl
  have := key xs.length 0 (by omega) (by simp)
  simpa using this

theorem map_loop {α β : Type} {a : List α} {z : β} {g : α → β} (ha : a.length ≤ 1048576) {f : List β × Int → Option ((List β × Int) ⊕ List β)}
    (hs : ∀ (s : List β) (i : Nat) (h : i < a.length) (h' : i < s.length), f (s, (i : Int)) = some (.inl (s.set i (g a[i]), ((i + 1 : Nat) : Int)))) (he : ∀ s, f (s, (a.length : Int)) = some (.inr s)) :
    loopM f (List.replicate a.length z, 0) = some (a.map g) := by
  have hloop := loop_run (R := List β) (f := f) (r := a.map g) a.length (fun i => ((a.take i).map g ++ List.replicate (a.length - i) z, (i : Int))) (by
    intro i hi
    have hl : i < ((a.take i).map g ++ List.replicate (a.length - i) z).length := by simp; omega
    rw [hs _ i hi hl]
    have hr : List.replicate (a.length - i) z = z :: List.replicate (a.length - (i + 1)) z := by
      rw [show a.length - i = (a.length - (i + 1)) + 1 by omega, List.replicate_succ]
    rw [List.take_succ_eq_append_getElem hi, hr, List.set_append_right _ _ (by simp; omega)]
    have : i - ((a.take i).map g).length = 0 := by simp; omega
    rw [this]; simp only [List.set_cons_zero, List.append_assoc, List.cons_append, List.nil_append, List.map_append, List.map_cons, List.map_nil]) (by
    rw [he]; simp)
  simpa using hloop
end Go.Vs

namespace Go.Vs

end Go.Vs

namespace Go.Vs

end Go.Vs

namespace Go.Vs

end Go.Vs

namespace Go.Vs

abbrev Item := Int × (List Int) × Int
def isItem (x : Item) : Bool := (decide (1 ≤ x.1) && decide (x.1 ≤ 99)) && (isVec x.2.1 && (decide (0 ≤ x.2.2) && decide (x.2.2 ≤ 15)))
def okFrom : Int → List Item → Bool
  | _, [] => true
  | p, x :: l => (isItem x && decide (p < x.1)) && okFrom x.1 l
def okStore (l : List Item) : Bool := decide (l.length ≤ 16) && okFrom 0 l

theorem implItem_ok {x : Item} (h : x.2.1.length < 2000000) : M.impl_validItem (x.1, x.2.1, x.2.2) = some (isItem x) := by
  unfold M.impl_validItem M.impl_validKey M.impl_validTags isItem
  simp only [impl_valid x.2.1 h, Option.bind_some]
  by_cases h1 : 1 ≤ x.1
  · by_cases h2 : x.1 ≤ 99
    · by_cases h3 : isVec x.2.1 = true
      · by_cases h4 : 0 ≤ x.2.2
        · simp [h1, h2, h3, h4]
        · simp [h1, h2, h3, h4]
      · simp only [Bool.not_eq_true] at h3
        simp [h1, h2, h3]
    · simp [h1, h2]
  · simp [h1]
theorem specItem_ok {x : Item} (h : x.2.1.length < 2000000) : M.spec_validItem (x.1, x.2.1, x.2.2) = some (isItem x) := by
  unfold M.spec_validItem isItem
  simp only [spec_inR, spec_isVec x.2.1 h, Option.bind_some]
  cases (decide (1 ≤ x.1) && decide (x.1 ≤ 99)) <;> cases isVec x.2.1 <;> simp

theorem implStore_ok {l : List Item} (hb : ∀ x ∈ l, x.2.1.length < 2000000) : M.impl_ValidStore l = some (okStore l) := by
  unfold M.impl_ValidStore okStore
  by_cases hl : 16 < (l.length : Int)
  · have : ¬ l.length ≤ 16 := by omega
    simp [hl, this]
  have hl' : l.length ≤ 16 := by omega
  simp only [hl, decide_false, cond_false, hl', decide_true, Bool.true_and]
  have key : ∀ m k : Nat, ∀ p : Int, k + m = l.length → loopM (fun (s3 : (Int) × (Int)) => (bif decide (s3.2 < (l.length : Int)) then
  (gidx l s3.2).bind fun x8 =>
  Option.bind ((M.impl_validItem (x8.1, x8.2.1, x8.2.2)).bind fun r30 =>
  (bif !r30 then
  some true
 else
  some (decide (x8.1 ≤ s3.1)))) fun o29 =>
  (bif o29 then
  some (.inr (.inr false))
 else
  some (.inl (x8.1, w64 (s3.2 + 1))))
 else
  some (.inr (.inl ())))) (p, (k : Int)) = some (if okFrom p (l.drop k) then (.inl () : Unit ⊕ Bool) else .inr false) := by
    intro m
    induction m with
    | zero =>
      intro k p hk
      have : k = l.length := by omega
      subst this
      rw [loopM_eq]; simp [selim, okFrom]
    | succ m ih =>
      intro k p hk
      have hlt : k < l.length := by omega
      rw [loopM_eq, List.drop_eq_getElem_cons hlt]
      have e1 : decide ((k : Int) < (l.length : Int)) = true := by simpa using hlt
      have e2 : w64 ((k : Int) + 1) = ((k + 1 : Nat) : Int) := w64_id (by omega) (by omega)
      simp only [e1, cond_true, gidx_nat hlt, Option.bind_some, implItem_ok (hb _ (List.getElem_mem hlt)), e2, okFrom]
      by_cases h1 : isItem l[k] = true
      · by_cases h2 : p < l[k].1
        · have h2' : ¬ l[k].1 ≤ p := by omega
          simp only [h1, h2, h2', Bool.not_true, cond_false, Option.bind_some, decide_false, decide_true, Bool.and_self, Bool.true_and, selim]
          exact ih (k + 1) l[k].1 (by omega)
        · have h2' : l[k].1 ≤ p := by omega
          simp [h1, h2, h2', selim]
      · simp only [Bool.not_eq_true] at h1
        simp [h1, selim]
  have := key l.length 0 0 (by omega)
  simp only [Int.cast_ofNat_Int, List.drop_zero] at this
  rw [this]
  cases okFrom 0 l <;> rfl

def keyBefore (l : List Item) : Nat → Int
  | 0 => 0
  | k + 1 => (l.getD k (0, [], 0)).1
theorem specStore_ok {l : List Item} (hb : ∀ x ∈ l, x.2.1.length < 2000000) (hL : l.length < 2000000) : M.spec_validStore l = some (okStore l) := by
  unfold M.spec_validStore okStore
  have key : ∀ m k : Nat, k + m = l.length → loopM (fun (s2 : (Int)) => (bif decide (s2 < (l.length : Int)) then
  Option.bind ((gidx l s2).bind fun x8 =>
  (M.spec_validItem (x8.1, x8.2.1, x8.2.2)).bind fun r19 =>
  (bif !r19 then
  some true
 else
  (bif decide (0 < s2) then
  (gidx l s2).bind fun x24 =>
  (gidx l (w64 (s2 - 1))).bind fun x29 =>
  some (decide (x24.1 ≤ x29.1))
 else
  some false))) fun o7 =>
  (bif o7 then
  some (.inr (.inr false))
 else
  some (.inl (w64 (s2 + 1))))
 else
  some (.inr (.inl ())))) (k : Int) = some (if okFrom (keyBefore l k) (l.drop k) then (.inl () : Unit ⊕ Bool) else .inr false) := by
    intro m
    induction m with
    | zero =>
      intro k hk
      have : k = l.length := by omega
      subst this
      rw [loopM_eq]; simp [selim, okFrom]
    | succ m ih =>
      intro k hk
      have hlt : k < l.length := by omega
      rw [loopM_eq, List.drop_eq_getElem_cons hlt]
      have e1 : decide ((k : Int) < (l.length : Int)) = true := by simpa using hlt
      have e2 : w64 ((k : Int) + 1) = ((k + 1 : Nat) : Int) := w64_id (by omega) (by omega)
      have hnext : keyBefore l (k + 1) = l[k].1 := by simp [keyBefore, List.getD, hlt]
      have ih' := ih (k + 1) (by omega)
      rw [hnext] at ih'
      simp only [e1, cond_true, gidx_nat hlt, Option.bind_some, specItem_ok (hb _ (List.getElem_mem hlt)), e2, okFrom]
      by_cases h1 : isItem l[k] = true
      · simp only [h1, Bool.not_true, cond_false, Bool.true_and]
        match k, hlt with
        | 0, hlt =>
          have hpos : keyBefore l 0 < l[0].1 := by
            have : 1 ≤ l[0].1 := by
              unfold isItem at h1; simp at h1; exact h1.1.1
            show 0 < _; omega
          have e3 : decide ((0 : Int) < ((0 : Nat) : Int)) = false := rfl
          simp only [e3, cond_false, Option.bind_some, hpos, decide_true, Bool.true_and, selim]
          exact ih'
        | j + 1, hlt =>
          have e3 : decide ((0 : Int) < ((j + 1 : Nat) : Int)) = true := by simp
          have e4 : w64 (((j + 1 : Nat) : Int) - 1) = (j : Int) := by rw [w64_id (by omega) (by omega)]; omega
          have hj : j < l.length := by omega
          have hk : keyBefore l (j + 1) = l[j].1 := by simp [keyBefore, List.getD, hj]
          simp only [e3, cond_true, e4, gidx_nat hj, Option.bind_some, hk]
          by_cases h2 : l[j].1 < l[j + 1].1
          · have h2' : ¬ l[j + 1].1 ≤ l[j].1 := by omega
            simp only [h2, h2', decide_false, decide_true, cond_false, Bool.true_and, selim, Option.bind_some]
            exact ih'
          · have h2' : l[j + 1].1 ≤ l[j].1 := by omega
            simp [h2, h2', selim]
      · simp only [Bool.not_eq_true] at h1
        simp [h1, selim]
  have := key l.length 0 (by omega)
  simp only [Int.cast_ofNat_Int, List.drop_zero] at this
  rw [this]
  show _ = some (decide (l.length ≤ 16) && okFrom 0 l)
  have e : keyBefore l 0 = 0 := rfl
  rw [e]
  by_cases h16 : l.length ≤ 16
  · have : decide ((l.length : Int) ≤ 16) = true := by simp; omega
    cases okFrom 0 l <;> simp [selim, this, h16]
  · have : decide ((l.length : Int) ≤ 16) = false := by simp; omega
    cases okFrom 0 l <;> simp [selim, this, h16]
end Go.Vs

namespace Go.Vs

theorem copy_loop {α : Type} {a : List α} {z : α} {g : α → Option α} (ha : a.length ≤ 1048576) (hg : ∀ x ∈ a, g x = some x) {f : List α × Int → Option ((List α × Int) ⊕ List α)}
    (hs : ∀ (s : List α) (i : Nat) (h : i < a.length) (h' : i < s.length), g a[i] = some a[i] → f (s, (i : Int)) = some (.inl (s.set i a[i], ((i + 1 : Nat) : Int)))) (he : ∀ s, f (s, (a.length : Int)) = some (.inr s)) :
    loopM f (List.replicate a.length z, 0) = some a := by
  have hloop := loop_run (R := List α) (f := f) (r := a) a.length (fun i => (a.take i ++ List.replicate (a.length - i) z, (i : Int))) (by
    intro i hi
    have hl : i < (a.take i ++ List.replicate (a.length - i) z).length := by simp; omega
    rw [hs _ i hi hl (hg _ (List.getElem_mem hi))]
    have hr : List.replicate (a.length - i) z = z :: List.replicate (a.length - (i + 1)) z := by
      rw [show a.length - i = (a.length - (i + 1)) + 1 by omega, List.replicate_succ]
    rw [List.take_succ_eq_append_getElem hi, hr, List.set_append_right _ _ (by simp; omega)]
    have : i - (a.take i).length = 0 := by simp; omega
    rw [this]; simp only [List.set_cons_zero, List.append_assoc, List.cons_append, List.nil_append]) (by
    rw [he]; simp)
  simpa using hloop
end Go.Vs

namespace Go.Vs

theorem w64_succ {i : Nat} (h : i < 4000000000000000000) : w64 ((i : Int) + 1) = ((i + 1 : Nat) : Int) := w64_id (by omega) (by omega)

section
variable {α S T R U : Type} {xs : List α}
theorem loop_fold (st : S → Int → T) (g : S → α → S) (Inv : Nat → S → Prop) {fin : S → R} {f : T → Option (T ⊕ R)} {s0 : S} (h0 : Inv 0 s0)
    (hs : ∀ s i (h : i < xs.length), Inv i s → f (st s (i : Int)) = some (.inl (st (g s xs[i]) ((i + 1 : Nat) : Int))) ∧ Inv (i + 1) (g s xs[i]))
    (he : ∀ s, Inv xs.length s → f (st s (xs.length : Int)) = some (.inr (fin s))) :
    loopM f (st s0 0) = some (fin (xs.foldl g s0)) ∧ Inv xs.length (xs.foldl g s0) := by
  have key : ∀ m k : Nat, ∀ s, k + m = xs.length → Inv k s → loopM f (st s (k : Int)) = some (fin ((xs.drop k).foldl g s)) ∧ Inv xs.length ((xs.drop k).foldl g s) := by
    intro m
    induction m with
    | zero =>
      intro k s hk hi
      have : k = xs.length := by omega
      subst this
      rw [loopM_eq, he s hi]; simpa [selim] using hi
    | succ m ih =>
      intro k s hk hi
      have hlt : k < xs.length := by omega
      obtain ⟨h1, h2⟩ := hs s k hlt hi
      rw [loopM_eq, h1, List.drop_eq_getElem_cons hlt]
      exact ih (k + 1) _ (by omega) h2
  have := key xs.length 0 s0 (by omega) h0
  simpa using this
theorem fold_bind (st : S → Int → T) (g : S → α → S) (Inv : Nat → S → Prop) (fin : S → R) {f : T → Option (T ⊕ R)} {s0 : S} {k : R → Option U} {r : Option U} (h0 : Inv 0 s0)
    (hs : ∀ s i (h : i < xs.length), Inv i s → f (st s (i : Int)) = some (.inl (st (g s xs[i]) ((i + 1 : Nat) : Int))) ∧ Inv (i + 1) (g s xs[i]))
    (he : ∀ s, Inv xs.length s → f (st s (xs.length : Int)) = some (.inr (fin s)))
    (hk : Inv xs.length (xs.foldl g s0) → k (fin (xs.foldl g s0)) = r) : (loopM f (st s0 0)).bind k = r := by
  obtain ⟨h1, h2⟩ := loop_fold st g Inv (fin := fin) h0 hs he
  rw [h1]; exact hk h2
theorem loop_to {f : T → Option (T ⊕ R)} (J : T → Prop) (μ : T → Nat) {r : R} (step : ∀ s, J s → (∃ s', f s = some (.inl s') ∧ J s' ∧ μ s' < μ s) ∨ f s = some (.inr r)) {s : T} (h : J s) : loopM f s = some r := by
  obtain ⟨r', h1, rfl⟩ := loopM_ind (f := f) J μ (fun x => x = r) (fun s hs => (step s hs).imp id (fun h => ⟨r, h, rfl⟩)) s h
  exact h1
theorem loop_first (p : α → Bool) (r : Nat → R) {f : Int → Option (Int ⊕ (Unit ⊕ R))}
    (hs : ∀ i (h : i < xs.length), f (i : Int) = some (if p xs[i] = true then .inr (.inr (r i)) else .inl ((i + 1 : Nat) : Int))) (he : f (xs.length : Int) = some (.inr (.inl ()))) :
    loopM f 0 = some (match xs.findIdx? p with | some i => .inr (r i) | none => .inl ()) := by
  have key : ∀ m k : Nat, k + m = xs.length → loopM f (k : Int) = some (match (xs.drop k).findIdx? p with | some i => .inr (r (k + i)) | none => .inl ()) := by
    intro m
    induction m with
    | zero =>
      intro k hk
      have : k = xs.length := by omega
      subst this
      rw [loopM_eq, he]; simp [selim]
    | succ m ih =>
      intro k hk
      have hlt : k < xs.length := by omega
      rw [loopM_eq, hs k hlt, List.drop_eq_getElem_cons hlt, List.findIdx?_cons]
      by_cases hp : p xs[k] = true
      · simp [hp, selim]
      · simp only [hp, if_false, selim, Option.bind_some, Bool.false_eq_true]
        rw [ih (k + 1) (by omega)]
        cases h : List.findIdx? p (List.drop (k + 1) xs) with
        | none => rfl
        | some i => simp only [Option.map_some]; rw [show k + 1 + i = k + (i + 1) by omega]
  have := key xs.length 0 (by omega)
  simpa using this
end

theorem foldl_filter {α : Type} (p : α → Bool) (l : List α) : ∀ s : List α, l.foldl (fun s x => if p x = true then s ++ [x] else s) s = s ++ l.filter p := by
  induction l with
  | nil => intro s; simp
  | cons x l ih =>
    intro s
    rw [List.foldl_cons, ih, List.filter_cons]
    by_cases h : p x = true <;> simp [h]
theorem foldl_map {α β : Type} (g : α → β) (l : List α) : ∀ s : List β, l.foldl (fun s x => s ++ [g x]) s = s ++ l.map g := by
  induction l with
  | nil => intro s; simp
  | cons x l ih => intro s; rw [List.foldl_cons, ih]; simp

/-! ## Valid stores as lists that ascend -/
theorem okFrom_iff {l : List Item} : ∀ {p : Int}, okFrom p l = true ↔ (∀ x ∈ l, isItem x = true ∧ p < x.1) ∧ l.Pairwise (fun x y => x.1 < y.1) := by
  induction l with
  | nil => intro p; simp [okFrom]
  | cons x l ih =>
    intro p
    simp only [okFrom, Bool.and_eq_true, decide_eq_true_eq, ih, List.pairwise_cons, List.mem_cons, forall_eq_or_imp]
    constructor
    · rintro ⟨⟨h1, h2⟩, h3, h4⟩
      exact ⟨⟨⟨h1, h2⟩, fun y hy => ⟨(h3 y hy).1, by have := (h3 y hy).2; omega⟩⟩, fun y hy => (h3 y hy).2, h4⟩
    · rintro ⟨⟨⟨h1, h2⟩, h3⟩, h4, h5⟩
      exact ⟨⟨h1, h2⟩, fun y hy => ⟨(h3 y hy).1, h4 y hy⟩, h5⟩
theorem isItem_iff {x : Item} : isItem x = true ↔ (1 ≤ x.1 ∧ x.1 ≤ 99) ∧ isVec x.2.1 = true ∧ 0 ≤ x.2.2 ∧ x.2.2 ≤ 15 := by
  unfold isItem; simp only [Bool.and_eq_true, decide_eq_true_eq]
theorem okStore_iff {l : List Item} : okStore l = true ↔ l.length ≤ 16 ∧ (∀ x ∈ l, isItem x = true) ∧ l.Pairwise (fun x y => x.1 < y.1) := by
  unfold okStore
  simp only [Bool.and_eq_true, decide_eq_true_eq, okFrom_iff]
  constructor
  · rintro ⟨h1, h2, h3⟩; exact ⟨h1, fun x hx => (h2 x hx).1, h3⟩
  · rintro ⟨h1, h2, h3⟩; exact ⟨h1, fun x hx => ⟨h2 x hx, by have := (isItem_iff.1 (h2 x hx)).1.1; omega⟩, h3⟩
theorem okStore_sub {l m : List Item} (h : okStore l = true) (hs : m.Sublist l) : okStore m = true := by
  obtain ⟨h1, h2, h3⟩ := okStore_iff.1 h
  exact okStore_iff.2 ⟨Nat.le_trans hs.length_le h1, fun x hx => h2 x (hs.subset hx), h3.sublist hs⟩
theorem isItem_len {x : Item} (h : isItem x = true) : x.2.1.length = 4 := (isVec_iff.1 (isItem_iff.1 h).2.1).1

def SmallS (l : List Item) : Prop := l.length ≤ 1048576 ∧ ∀ x ∈ l, x.2.1.length ≤ 1048576
theorem SmallS.hb {l : List Item} (h : SmallS l) : ∀ x ∈ l, x.2.1.length < 2000000 := fun x hx => by have := h.2 x hx; omega
theorem SmallS.hL {l : List Item} (h : SmallS l) : l.length < 2000000 := by have := h.1; omega
theorem okStore_small {l : List Item} (h : okStore l = true) : SmallS l := by
  obtain ⟨h1, h2, h3⟩ := okStore_iff.1 h
  exact ⟨by omega, fun x hx => by have := isItem_len (h2 x hx); omega⟩
theorem SmallS.impl {l : List Item} (h : SmallS l) : M.impl_ValidStore l = some (okStore l) := implStore_ok h.hb
theorem SmallS.specv {l : List Item} (h : SmallS l) : M.spec_validStore l = some (okStore l) := specStore_ok h.hb h.hL
/-! ## Putting -/
def putS (l : List Item) (x : Item) : List Item := l.filter (fun y => decide (y.1 < x.1)) ++ x :: l.filter (fun y => decide (x.1 < y.1))
theorem copyItem_spec {x : Item} (h : x.2.1.length ≤ 1000000) : M.spec_copyItem (x.1, x.2.1, x.2.2) = some x := by
  unfold M.spec_copyItem; simp only [copy_ok h, Option.bind_some]
theorem specPut_ok {l : List Item} {x : Item} (hl : l.length ≤ 1000) (hx : ∀ y ∈ l, y.2.1.length ≤ 1000000) (hxx : x.2.1.length ≤ 1000000) : M.spec_put l (x.1, x.2.1, x.2.2) = some (putS l x) := by
  unfold M.spec_put
  simp only []
  refine fold_bind (xs := l) (fun s i => (s, i)) (fun s y => if (decide (y.1 < x.1)) = true then s ++ [y] else s) (fun i s => s.length ≤ i) (fun s => s) (by simp) ?_ ?_ ?_
  · intro s i h hs
    have e1 : decide ((i : Int) < (l.length : Int)) = true := by simpa using h
    simp only [e1, cond_true, gidx_nat h, Option.bind_some, w64_succ (i := i) (by omega)]
    by_cases hk : l[i].1 < x.1
    · simp only [hk, decide_true, cond_true, copyItem_spec (hx _ (List.getElem_mem h)), Option.bind_some, if_true]
      rw [gapp_ok (by simp; omega)]
      exact ⟨by first | rfl | trivial, by simp; omega⟩
    · simp only [hk, decide_false, cond_false, Option.bind_some, if_false, Bool.false_eq_true]
      exact ⟨by first | rfl | trivial, by omega⟩
  · intro s _; simp
  · intro hs
    rw [foldl_filter] at hs ⊢
    simp only [List.nil_append] at hs ⊢
    simp only [copyItem_spec hxx, Option.bind_some]
    rw [gapp_ok (by simp; omega)]
    simp only [Option.bind_some]
    refine fold_bind (xs := l) (fun s i => (s, i)) (fun s y => if (decide (x.1 < y.1)) = true then s ++ [y] else s) (fun i s => s.length ≤ 1001 + i) (fun s => s) (by simp; omega) ?_ ?_ ?_
    · intro s i h hs
      have e1 : decide ((i : Int) < (l.length : Int)) = true := by simpa using h
      simp only [e1, cond_true, gidx_nat h, Option.bind_some, w64_succ (i := i) (by omega)]
      by_cases hk : x.1 < l[i].1
      · simp only [hk, decide_true, cond_true, copyItem_spec (hx _ (List.getElem_mem h)), Option.bind_some, if_true]
        rw [gapp_ok (by simp; omega)]
        exact ⟨by first | rfl | trivial, by simp; omega⟩
      · simp only [hk, decide_false, cond_false, Option.bind_some, if_false, Bool.false_eq_true]
        exact ⟨by first | rfl | trivial, by omega⟩
    · intro s _; simp
    · intro _
      rw [foldl_filter]; simp [putS]
theorem putS_len {l : List Item} {x : Item} (h : l.Pairwise (fun x y => x.1 < y.1)) : (putS l x).length ≤ l.length + 1 := by
  unfold putS
  simp only [List.length_append, List.length_cons]
  have : ∀ l : List Item, (l.filter (fun y => decide (y.1 < x.1))).length + (l.filter (fun y => decide (x.1 < y.1))).length ≤ l.length := by
    intro l
    induction l with
    | nil => simp
    | cons y l ih =>
      rw [List.filter_cons, List.filter_cons]
      by_cases h1 : y.1 < x.1
      · have h2 : ¬ x.1 < y.1 := by omega
        simp [h1, h2]; omega
      · by_cases h2 : x.1 < y.1
        · simp [h1, h2]; omega
        · simp [h1, h2]; omega
  have := this l; omega
theorem putS_ok {l : List Item} {x : Item} (h : okStore l = true) (hx : isItem x = true) : (∀ y ∈ putS l x, isItem y = true) ∧ (putS l x).Pairwise (fun x y => x.1 < y.1) := by
  obtain ⟨_, h2, h3⟩ := okStore_iff.1 h
  unfold putS
  refine ⟨?_, ?_⟩
  · intro y hy
    simp only [List.mem_append, List.mem_cons, List.mem_filter] at hy
    rcases hy with hy | rfl | hy
    · exact h2 y hy.1
    · exact hx
    · exact h2 y hy.1
  · rw [List.pairwise_append, List.pairwise_cons]
    refine ⟨h3.sublist List.filter_sublist, ⟨fun y hy => ?_, h3.sublist List.filter_sublist⟩, fun y hy z hz => ?_⟩
    · simpa using (List.mem_filter.1 hy).2
    · have h4 : y.1 < x.1 := by simpa using (List.mem_filter.1 hy).2
      rcases List.mem_cons.1 hz with rfl | hz
      · exact h4
      · have : x.1 < z.1 := by simpa using (List.mem_filter.1 hz).2
        omega
theorem putS_okStore {l : List Item} {x : Item} (h : okStore l = true) (hx : isItem x = true) : okStore (putS l x) = decide ((putS l x).length ≤ 16) := by
  obtain ⟨h1, h2⟩ := putS_ok h hx
  rw [Bool.eq_iff_iff, okStore_iff, decide_eq_true_eq]; exact ⟨fun h => h.1, fun h => ⟨h, h1, h2⟩⟩
def putItem (l : List Item) (x : Item) : List Item × Bool := if okStore l = true ∧ isItem x = true ∧ (putS l x).length ≤ 16 then (putS l x, true) else ([], false)
theorem specPutItem_ok {l : List Item} {x : Item} (h : SmallS l) (hx : x.2.1.length ≤ 1000000) : M.spec_PutItem l (x.1, x.2.1, x.2.2) = some (putItem l x) := by
  unfold M.spec_PutItem putItem
  simp only [h.specv, specItem_ok (x := x) (by omega), Option.bind_some]
  cases h1 : okStore l with
  | false => simp
  | true =>
    cases h2 : isItem x with
    | false => simp
    | true =>
      obtain ⟨hl, hi, hp⟩ := okStore_iff.1 h1
      simp only [Bool.not_true, cond_false, Option.bind_some]
      rw [specPut_ok (by omega) (fun y hy => by have := isItem_len (hi y hy); omega) hx]
      have hs := putS_ok h1 h2
      have hn := putS_len (x := x) hp
      simp only [Option.bind_some, specStore_ok (l := putS l x) (fun y hy => by have := isItem_len (hs.1 y hy); omega) (by omega), putS_okStore h1 h2]
      by_cases h16 : (putS l x).length ≤ 16 <;> simp [h16]

/-! ## Draws -/
def NearI (x : Item) : Prop := (0 ≤ x.1 ∧ x.1 ≤ 100) ∧ Near x.2.1 ∧ -1 ≤ x.2.2 ∧ x.2.2 ≤ 16
end Go.Vs

namespace Go.Vs

theorem wk_i64 (n : Int) : wk .i64 n = w64 n := rfl
theorem wk_u64 {n : Int} (h0 : 0 ≤ n) (h : n < 18446744073709551616) : wk .u64 n = n := by
  simp only [wk, Go.IntKind.wrap, Go.IntKind.bits, Go.IntKind.signed, Bool.false_and]
  have e1 : ((2 : Int) ^ (64 : Nat)) = 18446744073709551616 := by decide
  rw [e1]
  simp; omega
theorem mid_ok {i j : Nat} (hi : i ≤ j) (hj : j < 1000000000) : wk .i64 (gshr .u64 (wk .u64 (w64 ((i : Int) + (j : Int)))) 1) = (((i + j) / 2 : Nat) : Int) := by
  rw [w64_id (by omega) (by omega), wk_u64 (by omega) (by omega), wk_i64]
  have : gshr .u64 ((i : Int) + (j : Int)) 1 = ((i + j) / 2 : Nat) := by
    unfold gshr
    have e : (2 : Int) ^ (min (1 : Int).toNat (Go.IntKind.bits .u64)) = 2 := by decide
    rw [e, Int.fdiv_eq_ediv_of_nonneg _ (by omega)]
    omega
  rw [this, w64_nat (by omega)]
def cmpI (x y : Int) : Int := if x < y then -1 else if y < x then 1 else 0
theorem compare_ok (x y : Int) : M.cmp_Compare_int x y = some (cmpI x y) := by
  unfold M.cmp_Compare_int M.cmp_isNaN_int cmpI
  simp only [bne_self_eq_false, Option.bind_some, cond_false]
  by_cases h1 : x < y
  · simp [h1]
  · by_cases h2 : y < x <;> simp [h1, h2]
theorem place1_ok (x : Item) (k : Int) : M.impl_placeOf_1 (x.1, x.2.1, x.2.2) k = some (cmpI x.1 k) := by
  unfold M.impl_placeOf_1; simp only [compare_ok, Option.bind_some]
theorem cmpI_neg {x y : Int} : cmpI x y < 0 ↔ x < y := by unfold cmpI; split <;> (try split) <;> omega
theorem cmpI_zero {x y : Int} : cmpI x y = 0 ↔ x = y := by unfold cmpI; split <;> (try split) <;> omega
theorem cmpI_pos {x y : Int} : 0 < cmpI x y ↔ y < x := by unfold cmpI; split <;> (try split) <;> omega

def placeS (l : List Item) (k : Int) : Nat := l.countP fun x => decide (x.1 < k)
theorem place_lt {l : List Item} {k : Int} (hp : l.Pairwise (fun x y => x.1 < y.1)) {i : Nat} (h : i < l.length) : i < placeS l k ↔ l[i].1 < k := by
  induction l generalizing i with
  | nil => simp at h
  | cons x l ih =>
    rw [List.pairwise_cons] at hp
    unfold placeS at ih ⊢
    rw [List.countP_cons]
    cases i with
    | zero =>
      by_cases hx : x.1 < k
      · simp [hx]
      · have : l.countP (fun x => decide (x.1 < k)) = 0 := by
          rw [List.countP_eq_zero]; intro y hy; have := hp.1 y hy; simp; omega
        simp only [this, hx, decide_false, List.getElem_cons_zero]; simp
    | succ i =>
      simp only [List.length_cons] at h
      have := ih hp.2 (i := i) (by omega)
      simp only [List.getElem_cons_succ]
      by_cases hx : x.1 < k
      · simp only [hx, decide_true, if_true]; rw [← this]; omega
      · have h0 : l.countP (fun x => decide (x.1 < k)) = 0 := by
          rw [List.countP_eq_zero]; intro y hy; have := hp.1 y hy; simp; omega
        rw [h0] at this ⊢
        have hy := hp.1 l[i] (List.getElem_mem _)
        simp only [hx, decide_false]; constructor
        · intro hh; simp at hh
        · intro hh; omega
theorem placeS_le {l : List Item} {k : Int} : placeS l k ≤ l.length := List.countP_le_length
theorem search_ok {l : List Item} {k : Int} (hp : l.Pairwise (fun x y => x.1 < y.1)) (hl : l.length < 1000000) :
    M.slices_BinarySearchFunc_impl_Item_impl_Item_int__impl_placeOf_1 l k = some ((placeS l k : Int), l.any fun x => x.1 == k) := by
  unfold M.slices_BinarySearchFunc_impl_Item_impl_Item_int__impl_placeOf_1
  have hk := loop_to (f := fun (s2 : (Int) × (Int)) => (bif decide (s2.1 < s2.2) then
  (gidx l (wk .i64 (gshr .u64 (wk .u64 (w64 (s2.1 + s2.2))) 1))).bind fun x5 =>
  (M.impl_placeOf_1 (x5.1, x5.2.1, x5.2.2) k).bind fun r15 =>
  (bif decide (r15 < 0) then
  some (.inl (w64 ((wk .i64 (gshr .u64 (wk .u64 (w64 (s2.1 + s2.2))) 1)) + 1), s2.2))
 else
  some (.inl (s2.1, wk .i64 (gshr .u64 (wk .u64 (w64 (s2.1 + s2.2))) 1))))
 else
  some (.inr s2.1))) (fun s => ∃ i j : Nat, s = ((i : Int), (j : Int)) ∧ i ≤ j ∧ j ≤ l.length ∧ i ≤ placeS l k ∧ placeS l k ≤ j) (fun s => (s.2 - s.1).toNat) (r := (placeS l k : Int)) (by
    rintro _ ⟨i, j, rfl, hij, hjl, h1, h2⟩
    by_cases hlt : i < j
    · have e1 : decide ((i : Int) < (j : Int)) = true := decide_eq_true (by omega)
      have hmid : (i + j) / 2 < l.length := by omega
      simp only [e1, cond_true, mid_ok hij (by omega), gidx_nat hmid, Option.bind_some, place1_ok]
      have hpl := place_lt (k := k) hp hmid
      by_cases hc : l[(i + j) / 2].1 < k
      · have e2 : decide (cmpI l[(i + j) / 2].1 k < 0) = true := decide_eq_true (cmpI_neg.2 hc)
        simp only [e2, cond_true, w64_succ (i := (i + j) / 2) (by omega)]
        exact .inl ⟨_, rfl, ⟨_, _, rfl, by omega, hjl, by have := hpl.2 hc; omega, h2⟩, by simp only; omega⟩
      · have e2 : decide (cmpI l[(i + j) / 2].1 k < 0) = false := decide_eq_false (fun h => hc (cmpI_neg.1 h))
        simp only [e2, cond_false]
        exact .inl ⟨_, rfl, ⟨_, _, rfl, by omega, by omega, h1, Nat.le_of_not_lt fun h => hc (hpl.1 h)⟩, by simp only; omega⟩
    · have : i = placeS l k := by omega
      have e1 : decide ((i : Int) < (j : Int)) = false := decide_eq_false (by omega)
      refine .inr ?_
      simp only [e1, cond_false]; rw [this])
    (s := (0, (l.length : Int))) ⟨0, l.length, rfl, by omega, Nat.le_refl _, by omega, placeS_le⟩
  rw [hk]
  simp only [Option.bind_some]
  by_cases hlt : placeS l k < l.length
  · have e1 : decide ((placeS l k : Int) < (l.length : Int)) = true := decide_eq_true (by omega)
    simp only [e1, cond_true, gidx_nat hlt, Option.bind_some, place1_ok]
    congr 2
    have hpl := place_lt (k := k) hp hlt
    have hge : k ≤ l[placeS l k].1 := by
      refine Int.not_lt.1 fun h => ?_
      have := hpl.2 h; omega
    rw [Bool.eq_iff_iff, beq_iff_eq, cmpI_zero, List.any_eq_true]
    constructor
    · intro h; exact ⟨_, List.getElem_mem hlt, by simpa using h⟩
    · rintro ⟨x, hx, hxk⟩
      obtain ⟨i, hi, rfl⟩ := List.getElem_of_mem hx
      have hik : l[i].1 = k := by simpa using hxk
      have hle : ¬ i < placeS l k := fun h => by have := (place_lt hp hi).1 h; omega
      rcases Nat.lt_or_ge (placeS l k) i with h | h
      · have := List.pairwise_iff_getElem.1 hp _ _ hlt hi h; omega
      · have : i = placeS l k := by omega
        subst this; exact hik
  · have e1 : decide ((placeS l k : Int) < (l.length : Int)) = false := decide_eq_false (by omega)
    simp only [e1, cond_false]
    congr 2
    symm
    rw [List.any_eq_false]
    intro x hx hxk
    obtain ⟨i, hi, rfl⟩ := List.getElem_of_mem hx
    have hik : l[i].1 = k := by simpa using hxk
    have := (place_lt (k := k) hp hi).1 (by omega); omega
theorem placeOf_ok {l : List Item} {k : Int} (h : okStore l = true) : M.impl_placeOf l k = some ((placeS l k : Int), l.any fun x => x.1 == k) := by
  obtain ⟨h1, _, h3⟩ := okStore_iff.1 h
  unfold M.impl_placeOf
  rw [search_ok h3 (by omega)]; rfl
theorem place_get {l : List Item} {k : Int} (hp : l.Pairwise (fun x y => x.1 < y.1)) (h : l.any (fun x => x.1 == k) = true) : ∃ hi : placeS l k < l.length, l[placeS l k].1 = k ∧ l.find? (fun x => x.1 == k) = some l[placeS l k] := by
  obtain ⟨x, hx, hxk⟩ := List.any_eq_true.1 h
  obtain ⟨i, hi, rfl⟩ := List.getElem_of_mem hx
  have hik : l[i].1 = k := by simpa using hxk
  have hle : ¬ i < placeS l k := fun h => by have := (place_lt hp hi).1 h; omega
  have hlt : placeS l k < l.length := by omega
  have hge : ¬ placeS l k < i := fun h => by
    have h1 := List.pairwise_iff_getElem.1 hp _ _ hlt hi h
    have := (place_lt (k := k) hp hlt).2 (by omega); omega
  have : i = placeS l k := by omega
  refine ⟨hlt, by subst this; exact hik, ?_⟩
  rw [List.find?_eq_some_iff_getElem]
  refine ⟨by subst this; simpa using hik, _, hlt, rfl, fun j hj => ?_⟩
  have := (place_lt (k := k) hp (i := j) (by omega)).1 hj
  simp; omega

theorem clone_ok {v : List Int} (h : v.length ≤ 1048576) : M.slices_Clone_int_int v = some v := by
  unfold M.slices_Clone_int_int; rw [gapp_ok (by simp; omega)]; rfl
theorem implCopy_ok {x : Item} (h : x.2.1.length ≤ 1048576) : M.impl_copyItem (x.1, x.2.1, x.2.2) = some x := by
  unfold M.impl_copyItem; simp only [clone_ok h, Option.bind_some]
theorem keyAt_ok {l : List Item} {k : Int} (hl : l.length < 2000000) : M.spec_keyAt l k = some (match l.findIdx? (fun x => x.1 == k) with | some i => (i : Int) | none => -1) := by
  unfold M.spec_keyAt
  rw [loop_first (xs := l) (fun x => x.1 == k) (fun i => (i : Int))]
  · cases l.findIdx? (fun x => x.1 == k) <;> rfl
  · intro i h
    have e1 : decide ((i : Int) < (l.length : Int)) = true := decide_eq_true (by omega)
    simp only [e1, cond_true, gidx_nat h, Option.bind_some, w64_succ (i := i) (by omega)]
    cases l[i].1 == k <;> rfl
  · simp
def zItem : Item := (0, [], 0)
theorem bind_id {α : Type} (o : Option α) : o.bind (fun b => some b) = o := by cases o <;> rfl
end Go.Vs

namespace Go.Vs

section
variable {α S T R U : Type} {xs : List α}
theorem fold_bindK (k : Nat) {k' : Int} (hk' : k' = (k : Int)) (st : S → Int → T) (g : S → α → S) (Inv : Nat → S → Prop) (fin : S → R) {f : T → Option (T ⊕ R)} {s0 : S} {c : R → Option U} {r : Option U} (hkl : k ≤ xs.length) (h0 : Inv k s0)
    (hs : ∀ s i (h : i < xs.length), k ≤ i → Inv i s → f (st s (i : Int)) = some (.inl (st (g s xs[i]) ((i + 1 : Nat) : Int))) ∧ Inv (i + 1) (g s xs[i]))
    (he : ∀ s, Inv xs.length s → f (st s (xs.length : Int)) = some (.inr (fin s)))
    (hk : Inv xs.length ((xs.drop k).foldl g s0) → c (fin ((xs.drop k).foldl g s0)) = r) : (loopM f (st s0 k')).bind c = r := by
  have key : ∀ m i : Nat, ∀ s, i + m = xs.length → k ≤ i → Inv i s → loopM f (st s (i : Int)) = some (fin ((xs.drop i).foldl g s)) ∧ Inv xs.length ((xs.drop i).foldl g s) := by
    intro m
    induction m with
    | zero =>
      intro i s hm _ hi
      have : i = xs.length := by omega
      subst this
      rw [loopM_eq, he s hi]; simpa [selim] using hi
    | succ m ih =>
      intro i s hm hki hi
      have hlt : i < xs.length := by omega
      obtain ⟨h1, h2⟩ := hs s i hlt hki hi
      rw [loopM_eq, h1, List.drop_eq_getElem_cons hlt]
      exact ih (i + 1) _ (by omega) (by omega) h2
  obtain ⟨h1, h2⟩ := key (xs.length - k) k s0 (by omega) (Nat.le_refl _) h0
  subst hk'
  rw [h1]; exact hk h2
end

theorem isItem_vec {x : Item} (h : isItem x = true) : isVec x.2.1 = true := (isItem_iff.1 h).2.1

end Go.Vs

namespace Go.Vs

/-! ## InBox -/
end Go.Vs

namespace Go.Vs

def isKind (k : Int) : Bool := decide (1 ≤ k) && decide (k ≤ 4)
theorem isKind_iff {k : Int} : isKind k = true ↔ 1 ≤ k ∧ k ≤ 4 := by unfold isKind; simp
theorem implKind_ok (k : Int) : M.impl_validKind k = some (isKind k) := by
  unfold M.impl_validKind isKind
  by_cases h : 1 ≤ k <;> simp [h]
theorem specKind_ok (k : Int) : M.spec_validKind k = some (isKind k) := by
  unfold M.spec_validKind; simp only [spec_inR, Option.bind_some]; rfl
theorem dk_nonneg {k g0 g1 g2 g3 : Int} (h : Gaps g0 g1 g2 g3) (hk : 1 ≤ k ∧ k ≤ 4) : 0 ≤ dk k g0 g1 g2 g3 := by
  obtain ⟨n0, n1, n2, n3, m0, m1, m2, m3⟩ := h
  have s0 := sq_bounds n0 m0
  have s1 := sq_bounds n1 m1
  have s2 := sq_bounds n2 m2
  have s3 := sq_bounds n3 m3
  by_cases k1 : k = 1
  · subst k1; simp only [dk, if_true]; omega
  by_cases k2 : k = 2
  · subst k2; rw [dk, if_neg (by omega), if_pos rfl]; omega
  by_cases k3 : k = 3
  · subst k3; rw [dk, if_neg (by omega), if_neg (by omega), if_pos rfl]; omega
  · have k4 : k = 4 := by omega
    subst k4; rw [dk, if_neg (by omega), if_neg (by omega), if_neg (by omega), if_pos rfl]; omega
theorem dist_range {k : Int} {a b : List Int} (hk : isKind k = true) (ha : isVec a = true) (hb : isVec b = true) : 0 ≤ dist k a b ∧ dist k a b < 1000000 := by
  obtain ⟨x0, x1, x2, x3, rfl, c0, c1, c2, c3⟩ := isVec_cut ha
  obtain ⟨y0, y1, y2, y3, rfl, e0, e1, e2, e3⟩ := isVec_cut hb
  rw [dist_vec ha hb]
  have G := gaps_of c0 c1 c2 c3 e0 e1 e2 e3
  exact ⟨dk_nonneg G (isKind_iff.1 hk), (dk_range G).2⟩
theorem specDist_vec {k : Int} {a b : List Int} (hk : isKind k = true) (ha : isVec a = true) (hb : isVec b = true) : M.spec_dist k a b = some (dist k a b) := by
  obtain ⟨x0, x1, x2, x3, rfl, c0, c1, c2, c3⟩ := isVec_cut ha
  obtain ⟨y0, y1, y2, y3, rfl, e0, e1, e2, e3⟩ := isVec_cut hb
  rw [dist_vec ha hb]
  exact specDist_ok (isKind_iff.1 hk) c0 c1 c2 c3 e0 e1 e2 e3
theorem implDist_vec {k : Int} {a b : List Int} (ha : isVec a = true) (hb : isVec b = true) : M.impl_Distance k a b = some (dist k a b) :=
  implDistance_ok k (by rw [(isVec_iff.1 ha).1]; omega) (by rw [(isVec_iff.1 hb).1]; omega)

def tl {α : Type} : List α → List (α × List α)
  | [] => []
  | x :: r => (x, r) :: tl r
theorem tl_len {α : Type} : ∀ (l : List α), (tl l).length = l.length
  | [] => rfl
  | x :: r => by simp [tl, tl_len r]
theorem tl_get {α : Type} : ∀ {l : List α} {i : Nat} (h : i < l.length) (h' : i < (tl l).length), (tl l)[i] = (l[i], l.drop (i + 1))
  | x :: r, 0, _, _ => by simp [tl]
  | x :: r, i + 1, h, _ => by
    simp only [tl, List.getElem_cons_succ, List.drop_succ_cons]
    exact tl_get (by simpa using h) _
def pairsOf {α : Type} : List α → List (α × α)
  | [] => []
  | x :: r => r.map (fun y => (x, y)) ++ pairsOf r
theorem fold_pairs {α S : Type} (f : S → α × α → S) (l : List α) : ∀ s : S, (tl l).foldl (fun s p => p.2.foldl (fun s y => f s (p.1, y)) s) s = (pairsOf l).foldl f s := by
  induction l with
  | nil => intro s; rfl
  | cons x r ih =>
    intro s
    simp only [tl, pairsOf, List.foldl_cons, List.foldl_append, List.foldl_map]
    exact ih _
theorem pairsOf_map {α β : Type} (g : α → β) : ∀ l : List α, pairsOf (l.map g) = (pairsOf l).map fun p => (g p.1, g p.2)
  | [] => rfl
  | x :: r => by simp [pairsOf, pairsOf_map g r, List.map_map, Function.comp_def]
theorem mem_pairsOf {α : Type} {l : List α} {p : α × α} : p ∈ pairsOf l ↔ ∃ i j, ∃ (hi : i < l.length) (hj : j < l.length), i < j ∧ p = (l[i], l[j]) := by
  induction l with
  | nil => simp [pairsOf]
  | cons x r ih =>
    rw [pairsOf, List.mem_append, List.mem_map, ih]
    constructor
    · rintro (⟨y, hy, rfl⟩ | ⟨i, j, hi, hj, hij, rfl⟩)
      · obtain ⟨j, hj, rfl⟩ := List.getElem_of_mem hy
        exact ⟨0, j + 1, by simp, by simp; omega, by omega, by simp⟩
      · exact ⟨i + 1, j + 1, by simp; omega, by simp; omega, by omega, by simp⟩
    · rintro ⟨i, j, hi, hj, hij, rfl⟩
      obtain ⟨j, rfl⟩ : ∃ j', j = j' + 1 := ⟨j - 1, by omega⟩
      simp only [List.length_cons] at hi hj
      cases i with
      | zero => exact .inl ⟨r[j], List.getElem_mem _, by simp⟩
      | succ i => exact .inr ⟨i, j, by omega, by omega, by omega, by simp⟩
def pickMin {α : Type} (d : α → Int) (a : α) (l : List α) : α := l.foldl (fun s p => if d p < d s then p else s) a
theorem pickMin_map {α β : Type} (g : α → β) (d : β → Int) (l : List α) : ∀ a, pickMin d (g a) (l.map g) = g (pickMin (fun x => d (g x)) a l) := by
  induction l with
  | nil => intro a; rfl
  | cons x r ih =>
    intro a
    simp only [pickMin, List.map_cons, List.foldl_cons] at ih ⊢
    by_cases h : d (g x) < d (g a)
    · rw [if_pos h, if_pos h]; exact ih x
    · rw [if_neg h, if_neg h]; exact ih a
theorem pickMin_split {α : Type} (d : α → Int) (l : List α) : ∀ a, ∃ A B, a :: l = A ++ pickMin d a l :: B ∧ (∀ x ∈ A, d (pickMin d a l) < d x) ∧ ∀ x ∈ B, d (pickMin d a l) ≤ d x := by
  induction l with
  | nil => intro a; exact ⟨[], [], rfl, by simp, by simp⟩
  | cons x r ih =>
    intro a
    by_cases h : d x < d a
    · have e : pickMin d a (x :: r) = pickMin d x r := by simp only [pickMin, List.foldl_cons, if_pos h]
      obtain ⟨A, B, h1, h2, h3⟩ := ih x
      rw [e]
      refine ⟨a :: A, B, by rw [List.cons_append, ← h1], ?_, h3⟩
      intro y hy
      rcases List.mem_cons.1 hy with rfl | hy
      · have : d (pickMin d x r) ≤ d x := by
          have hx : x ∈ A ++ pickMin d x r :: B := by rw [← h1]; simp
          rcases List.mem_append.1 hx with hx | hx
          · have := h2 x hx; omega
          · rcases List.mem_cons.1 hx with hx | hx
            · rw [← hx]; omega
            · exact h3 x hx
        omega
      · exact h2 y hy
    · have e : pickMin d a (x :: r) = pickMin d a r := by simp only [pickMin, List.foldl_cons, if_neg h]
      obtain ⟨A, B, h1, h2, h3⟩ := ih a
      rw [e]
      cases A with
      | nil =>
        simp only [List.nil_append, List.cons.injEq] at h1
        refine ⟨[], x :: B, by rw [List.nil_append, ← h1.1, ← h1.2], by simp, ?_⟩
        intro y hy
        rcases List.mem_cons.1 hy with rfl | hy
        · rw [← h1.1]; omega
        · exact h3 y hy
      | cons c A =>
        simp only [List.cons_append, List.cons.injEq] at h1
        refine ⟨a :: x :: A, B, congrArg (fun t => a :: x :: t) h1.2, ?_, h3⟩
        intro y hy
        have hca := h2 c (by simp)
        have e2 : d a = d c := by rw [h1.1]
        rcases List.mem_cons.1 hy with rfl | hy
        · omega
        · rcases List.mem_cons.1 hy with rfl | hy
          · omega
          · exact h2 y (by simp [hy])
theorem pickMin_mem {α : Type} (d : α → Int) (a : α) (l : List α) : pickMin d a l ∈ a :: l := by
  obtain ⟨A, B, h, _, _⟩ := pickMin_split d l a
  rw [h]; simp
theorem pickMin_le {α : Type} (d : α → Int) (a : α) (l : List α) : ∀ x ∈ a :: l, d (pickMin d a l) ≤ d x := by
  obtain ⟨A, B, h, h1, h2⟩ := pickMin_split d l a
  intro x hx
  rw [h] at hx
  rcases List.mem_append.1 hx with hx | hx
  · have := h1 x hx; omega
  · rcases List.mem_cons.1 hx with rfl | hx
    · omega
    · exact h2 x hx
def pdist (k : Int) (p : Item × Item) : Int := dist k p.1.2.1 p.2.2.1
def closest (l : List Item) (k : Int) : Option (Item × Item) := if okStore l = true ∧ isKind k = true then (match pairsOf l with | p :: ps => some (pickMin (pdist k) p ps) | [] => none) else none
def closestPair (l : List Item) (k : Int) : Int × Int × Bool := match closest l k with | some p => (p.1.1, p.2.1, true) | none => (0, 0, false)
theorem pairs_nil {l : List Item} : pairsOf l = [] ↔ l.length < 2 := by
  match l with
  | [] => simp [pairsOf]
  | [x] => simp [pairsOf]
  | x :: y :: r => simp [pairsOf]
theorem implClosest_ok {l : List Item} {k : Int} (h : SmallS l) : M.impl_ClosestPair l k = some (closestPair l k) := by
  unfold M.impl_ClosestPair closestPair closest
  simp only [h.impl, implKind_ok, Option.bind_some]
  cases ho : okStore l with
  | false => simp
  | true =>
  cases hk : isKind k with
  | false => simp
  | true =>
  obtain ⟨hlen, hit, _⟩ := okStore_iff.1 ho
  simp only [Bool.not_true, cond_false, Option.bind_some, and_self, if_true]
  cases hp : pairsOf l with
  | nil =>
    have := pairs_nil.1 hp
    have e : decide ((l.length : Int) < 2) = true := decide_eq_true (by omega)
    simp [e]
  | cons p ps =>
    have : ¬ l.length < 2 := fun h => by rw [pairs_nil.2 h] at hp; cases hp
    have e : decide ((l.length : Int) < 2) = false := decide_eq_false (by omega)
    simp only [e, cond_false]
    let upd : Int × Int × Int → Item × Item → Int × Int × Int := fun s q => if pdist k q < s.2.2 then (q.1.1, q.2.1, pdist k q) else s
    refine fold_bind (xs := tl l) (fun (s : Int × Int × Int) i => (s.1, s.2.1, s.2.2, i)) (fun s q => q.2.foldl (fun s y => upd s (q.1, y)) s) (fun _ _ => True) (fun s => (s.1, s.2.1)) (s0 := (0, 0, 1000000)) trivial ?_ ?_ ?_
    · intro s i hi _
      have hi' : i < l.length := by rw [tl_len] at hi; exact hi
      have e1 : decide ((i : Int) < (l.length : Int)) = true := decide_eq_true (by omega)
      have eg : gslice l ((i + 1 : Nat) : Int) (l.length : Int) = some (l.drop (i + 1)) := by
        rw [gslice_ok (by omega) (by omega) (by omega)]; simp
      rw [tl_get hi' hi]
      simp only [e1, cond_true, gidx_nat hi', Option.bind_some, w64_succ (i := i) (by omega), eg, and_true]
      refine fold_bind (xs := l.drop (i + 1)) (fun (s : Int × Int × Int) i => (s.1, s.2.1, s.2.2, i)) (fun s y => upd s (l[i], y)) (fun _ _ => True) (fun s => (s.1, s.2.1, s.2.2)) (s0 := s) trivial ?_ ?_ ?_
      · intro s j hj _
        have e2 : decide ((j : Int) < ((l.drop (i + 1)).length : Int)) = true := decide_eq_true (by omega)
        have hm : (l.drop (i + 1))[j] ∈ l := List.mem_of_mem_drop (List.getElem_mem hj)
        have hjl : j < 16 := by rw [List.length_drop] at hj; omega
        simp only [e2, cond_true, gidx_nat hj, Option.bind_some, w64_succ (i := j) (by omega), implDist_vec (isItem_vec (hit _ (List.getElem_mem hi'))) (isItem_vec (hit _ hm)), and_true]
        by_cases hc : pdist k (l[i], (l.drop (i + 1))[j]) < s.2.2
        · have hc' : dist k l[i].2.1 (l.drop (i + 1))[j].2.1 < s.2.2 := hc
          have hu : upd s (l[i], (l.drop (i + 1))[j]) = (l[i].1, (l.drop (i + 1))[j].1, pdist k (l[i], (l.drop (i + 1))[j])) := if_pos hc
          simp only [hc', decide_true, cond_true, Option.bind_some, hu]; rfl
        · have hc' : ¬ dist k l[i].2.1 (l.drop (i + 1))[j].2.1 < s.2.2 := hc
          have hu : upd s (l[i], (l.drop (i + 1))[j]) = s := if_neg hc
          simp only [hc', decide_false, cond_false, Option.bind_some, hu]
      · intro s _; simp
      · intro _; rfl
    · intro s _; rw [tl_len]; simp
    · intro _
      rw [fold_pairs upd, hp]
      have key : ∀ (ps : List (Item × Item)) (q : Item × Item), ps.foldl upd (q.1.1, q.2.1, pdist k q) = ((pickMin (pdist k) q ps).1.1, (pickMin (pdist k) q ps).2.1, pdist k (pickMin (pdist k) q ps)) := by
        intro ps
        induction ps with
        | nil => intro q; rfl
        | cons x r ih =>
          intro q
          simp only [List.foldl_cons, pickMin]
          by_cases hc : pdist k x < pdist k q
          · rw [if_pos hc]
            have : upd (q.1.1, q.2.1, pdist k q) x = (x.1.1, x.2.1, pdist k x) := if_pos hc
            rw [this]; exact ih x
          · rw [if_neg hc]
            have : upd (q.1.1, q.2.1, pdist k q) x = (q.1.1, q.2.1, pdist k q) := if_neg hc
            rw [this]; exact ih q
      have hp1 : upd (0, 0, 1000000) p = (p.1.1, p.2.1, pdist k p) := by
        refine if_pos ?_
        obtain ⟨i, j, hi, hj, _, e⟩ := mem_pairsOf.1 (show p ∈ pairsOf l by rw [hp]; simp)
        rw [e]
        exact (dist_range hk (isItem_vec (hit _ (List.getElem_mem hi))) (isItem_vec (hit _ (List.getElem_mem hj)))).2
      rw [List.foldl_cons, hp1, key]
theorem specClosest_ok {l : List Item} {k : Int} (h : SmallS l) : M.spec_ClosestPair l k = some (closestPair l k) := by
  unfold M.spec_ClosestPair closestPair closest
  simp only [h.specv, specKind_ok, Option.bind_some]
  cases ho : okStore l with
  | false => simp
  | true =>
  cases hk : isKind k with
  | false => simp
  | true =>
  obtain ⟨hlen, hit, _⟩ := okStore_iff.1 ho
  simp only [Bool.not_true, cond_false, Option.bind_some, and_self, if_true]
  by_cases h2 : l.length < 2
  · have e : decide ((l.length : Int) < 2) = true := decide_eq_true (by omega)
    rw [pairs_nil.2 h2]; simp [e]
  have e : decide ((l.length : Int) < 2) = false := decide_eq_false (by omega)
  simp only [e, cond_false]
  -- numbers of items
  let at' : Nat → Item := fun i => l.getD i zItem
  have hat : ∀ i (h : i < l.length), at' i = l[i] := fun i h => by simp [at', List.getD, h]
  have hvec : ∀ i, i < l.length → isVec (at' i).2.1 = true := fun i h => by rw [hat i h]; exact isItem_vec (hit _ (List.getElem_mem h))
  let d : Nat × Nat → Int := fun p => dist k (at' p.1).2.1 (at' p.2).2.1
  let upd : Nat × Nat → Nat × Nat → Nat × Nat := fun s q => if d q < d s then q else s
  have hgi : ∀ i, i < l.length → gidx l (i : Int) = some (at' i) := fun i h => by rw [gidx_nat h, hat i h]
  refine fold_bind (xs := tl (List.range l.length)) (fun (s : Nat × Nat) i => ((s.1 : Int), (s.2 : Int), i)) (fun s q => q.2.foldl (fun s y => upd s (q.1, y)) s) (fun _ s => s.1 < l.length ∧ s.2 < l.length) (fun s => ((s.1 : Int), (s.2 : Int))) (s0 := (0, 1)) (by simp only; omega) ?_ ?_ ?_
  · rintro s i hi ⟨hs1, hs2⟩
    have hi' : i < l.length := by rw [tl_len, List.length_range] at hi; exact hi
    have e1 : decide ((i : Int) < (l.length : Int)) = true := decide_eq_true (by omega)
    rw [tl_get (by simpa using hi') hi]
    simp only [e1, cond_true, w64_succ (i := i) (by omega), List.getElem_range]
    have inv : ∀ (m : List Nat), (∀ y ∈ m, y < l.length) → ∀ s : Nat × Nat, s.1 < l.length ∧ s.2 < l.length → (m.foldl (fun s y => upd s (i, y)) s).1 < l.length ∧ (m.foldl (fun s y => upd s (i, y)) s).2 < l.length := by
      intro m
      induction m with
      | nil => intro _ s hs; exact hs
      | cons y m ih =>
        intro hm s hs
        rw [List.foldl_cons]
        refine ih (fun z hz => hm z (by simp [hz])) _ ?_
        show (if d (i, y) < d s then (i, y) else s).1 < _ ∧ (if d (i, y) < d s then (i, y) else s).2 < _
        split
        · exact ⟨hi', hm y (by simp)⟩
        · exact hs
    refine ⟨?_, inv _ (fun y hy => by simpa using List.mem_of_mem_drop hy) s ⟨hs1, hs2⟩⟩
    refine fold_bindK (xs := List.range l.length) (i + 1) (by rfl) (fun (s : Nat × Nat) i => ((s.1 : Int), (s.2 : Int), i)) (fun s y => upd s (i, y)) (fun _ s => s.1 < l.length ∧ s.2 < l.length) (fun s => ((s.1 : Int), (s.2 : Int))) (s0 := s) (by simp; omega) ⟨hs1, hs2⟩ ?_ ?_ ?_
    · rintro s j hj hij ⟨hs1, hs2⟩
      have hj' : j < l.length := by simpa using hj
      have e2 : decide ((j : Int) < (l.length : Int)) = true := decide_eq_true (by omega)
      simp only [e2, cond_true, hgi i hi', hgi j hj', hgi s.1 hs1, hgi s.2 hs2, Option.bind_some, w64_succ (i := j) (by omega), specDist_vec hk (hvec i hi') (hvec j hj'), specDist_vec hk (hvec s.1 hs1) (hvec s.2 hs2), List.getElem_range]
      by_cases hc : d (i, j) < d s
      · have hc' : dist k (at' i).2.1 (at' j).2.1 < dist k (at' s.1).2.1 (at' s.2).2.1 := hc
        have hu : upd s (i, j) = (i, j) := if_pos hc
        simp only [hc', decide_true, cond_true, Option.bind_some, hu]
        exact ⟨by first | rfl | trivial, hi', hj'⟩
      · have hc' : ¬ dist k (at' i).2.1 (at' j).2.1 < dist k (at' s.1).2.1 (at' s.2).2.1 := hc
        have hu : upd s (i, j) = s := if_neg hc
        simp only [hc', decide_false, cond_false, Option.bind_some, hu]
        exact ⟨by first | rfl | trivial, hs1, hs2⟩
    · intro s _; simp
    · intro _; rfl
  · intro s _; rw [tl_len]; simp
  · rintro hs
    rw [fold_pairs upd] at hs ⊢
    simp only [hgi _ hs.1, hgi _ hs.2, Option.bind_some]
    have hl : l = (List.range l.length).map at' := by
      apply List.ext_getElem
      · simp
      · intro i h1 h2; simp [hat i h1]
    have hpairs : pairsOf l = (pairsOf (List.range l.length)).map fun p => (at' p.1, at' p.2) := by
      have := pairsOf_map at' (List.range l.length)
      rw [← hl] at this; exact this
    obtain ⟨n, hn⟩ : ∃ n, l.length = n + 2 := ⟨l.length - 2, by omega⟩
    obtain ⟨ps, hps⟩ : ∃ ps, pairsOf (List.range l.length) = (0, 1) :: ps := by
      rw [hn, List.range_succ_eq_map, List.range_succ_eq_map]
      exact ⟨_, rfl⟩
    rw [hpairs, hps]
    have e0 : upd (0, 1) (0, 1) = (0, 1) := if_neg (by omega)
    rw [List.foldl_cons, e0, List.map_cons]
    have hpm := pickMin_map (fun p : Nat × Nat => (at' p.1, at' p.2)) (pdist k) ps (0, 1)
    simp only at hpm ⊢
    rw [hpm]
    rfl

theorem closest_some {l : List Item} {k : Int} {p : Item × Item} (h : closest l k = some p) : okStore l = true ∧ isKind k = true ∧ p ∈ pairsOf l ∧ ∀ q ∈ pairsOf l, pdist k p ≤ pdist k q := by
  unfold closest at h
  split at h
  · rename_i hok
    refine ⟨hok.1, hok.2, ?_⟩
    cases hp : pairsOf l with
    | nil => rw [hp] at h; cases h
    | cons q ps =>
      rw [hp] at h
      simp only [Option.some.injEq] at h
      subst h
      exact ⟨pickMin_mem _ _ _, pickMin_le _ _ _⟩
  · cases h
end Go.Vs

namespace Go.Vs

theorem sorted_uniq {l m : List Item} (hl : l.Pairwise (fun x y => x.1 < y.1)) (hm : m.Pairwise (fun x y => x.1 < y.1)) (h : ∀ x, x ∈ l ↔ x ∈ m) : l = m := by
  induction l generalizing m with
  | nil =>
    cases m with
    | nil => rfl
    | cons y m => exact absurd ((h y).2 (by simp)) (by simp)
  | cons x l ih =>
    cases m with
    | nil => exact absurd ((h x).1 (by simp)) (by simp)
    | cons y m =>
      rw [List.pairwise_cons] at hl hm
      have hxy : x = y := by
        rcases List.mem_cons.1 ((h x).1 (by simp)) with e | hx
        · exact e
        · rcases List.mem_cons.1 ((h y).2 (by simp)) with e | hy
          · exact e.symm
          · have h1 := hl.1 y hy
            have h2 := hm.1 x hx
            omega
      subst hxy
      rw [ih hl.2 hm.2 (fun z => ?_)]
      constructor
      · intro hz
        rcases List.mem_cons.1 ((h z).1 (by simp [hz])) with e | hz'
        · subst e; have := hl.1 z hz; omega
        · exact hz'
      · intro hz
        rcases List.mem_cons.1 ((h z).2 (by simp [hz])) with e | hz'
        · subst e; have := hm.1 z hz; omega
        · exact hz'
theorem filter_lt {l : List Item} {k : Int} (hp : l.Pairwise (fun x y => x.1 < y.1)) : l.filter (fun y => decide (y.1 < k)) = l.take (placeS l k) := by
  induction l with
  | nil => rfl
  | cons x l ih =>
    rw [List.pairwise_cons] at hp
    unfold placeS at ih ⊢
    rw [List.filter_cons, List.countP_cons]
    by_cases hx : x.1 < k
    · simp [hx, ih hp.2]
    · have h0 : l.countP (fun x => decide (x.1 < k)) = 0 := by
        rw [List.countP_eq_zero]; intro y hy; have := hp.1 y hy; simp; omega
      have h1 := ih hp.2
      rw [h0] at h1 ⊢
      simp [hx, h1]
theorem filter_gt {l : List Item} {k : Int} (hp : l.Pairwise (fun x y => x.1 < y.1)) : l.filter (fun y => decide (k < y.1)) = l.drop (placeS l k + if (l.any fun x => x.1 == k) = true then 1 else 0) := by
  induction l with
  | nil => rfl
  | cons x l ih =>
    rw [List.pairwise_cons] at hp
    have ih := ih hp.2
    unfold placeS at ih ⊢
    rw [List.filter_cons, List.countP_cons, List.any_cons]
    by_cases hx : x.1 < k
    · have h2 : ¬ k < x.1 := by omega
      have h3 : (x.1 == k) = false := beq_eq_false_iff_ne.2 (by omega)
      simp only [hx, h2, h3, decide_true, decide_false, Bool.false_eq_true, if_false, if_true, Bool.false_or, ih]
      rw [show List.countP (fun x => decide (x.1 < k)) l + 1 + (if (l.any fun x => x.1 == k) = true then 1 else 0) = (List.countP (fun x => decide (x.1 < k)) l + (if (l.any fun x => x.1 == k) = true then 1 else 0)) + 1 by omega, List.drop_succ_cons]
    · have h0 : l.countP (fun x => decide (x.1 < k)) = 0 := by
        rw [List.countP_eq_zero]; intro y hy; have := hp.1 y hy; simp; omega
      have hall : l.filter (fun y => decide (k < y.1)) = l := by
        rw [List.filter_eq_self]; intro y hy; have := hp.1 y hy; simp; omega
      rw [h0, hall]
      by_cases hk : x.1 = k
      · have h2 : ¬ k < x.1 := by omega
        simp [hk]
      · have h2 : k < x.1 := by omega
        have h3 : (x.1 == k) = false := beq_eq_false_iff_ne.2 hk
        have h4 : (l.any fun x => x.1 == k) = false := by
          rw [List.any_eq_false]; intro y hy; have := hp.1 y hy; simp; omega
        simp [hx, h2, h3, h4]
theorem putS_found {l : List Item} {x : Item} (hp : l.Pairwise (fun x y => x.1 < y.1)) (h : (l.any fun y => y.1 == x.1) = true) : putS l x = l.set (placeS l x.1) x := by
  obtain ⟨hlt, _, _⟩ := place_get hp h
  unfold putS
  rw [filter_lt hp, filter_gt hp, if_pos h, List.set_eq_take_append_cons_drop, if_pos hlt]
theorem putS_new {l : List Item} {x : Item} (hp : l.Pairwise (fun x y => x.1 < y.1)) (h : (l.any fun y => y.1 == x.1) = false) : putS l x = l.take (placeS l x.1) ++ x :: l.drop (placeS l x.1) := by
  unfold putS
  rw [filter_lt hp, filter_gt hp, h]; rfl

theorem copyItems_ok {l : List Item} (h : SmallS l) : M.impl_copyItems l = some l := by
  unfold M.impl_copyItems
  rw [gmake_ok (by omega) (by have := h.1; omega)]
  simp only [Option.bind_some, Int.toNat_natCast]
  rw [copy_loop (a := l) (g := fun x => M.impl_copyItem (x.1, x.2.1, x.2.2)) h.1 (fun x hx' => implCopy_ok (h.2 x hx'))]
  · rfl
  · intro s i hi hi' hg
    have e1 : decide ((i : Int) < (l.length : Int)) = true := decide_eq_true (by omega)
    simp only [e1, cond_true, gidx_nat hi, gidx_nat hi', Option.bind_some, hg, w64_succ (i := i) (by have := h.1; omega), Int.toNat_natCast]
  · intro s; simp
theorem gcopyAt_mid {α : Type} {A B ys : List α} {n i : Nat} (hA : A.length = i) : gcopyAt (A ++ B) i n ys = A ++ (ys.take n ++ B.drop (min n ys.length)) := by
  subst hA
  unfold gcopyAt
  rw [List.take_left, List.drop_append, List.drop_eq_nil_of_le (by omega), Nat.add_sub_cancel_left, List.nil_append]
theorem insert_ok {s : List Item} {x : Item} {i : Nat} (hi : i ≤ s.length) (hl : s.length ≤ 1000000) : M.slices_Insert_impl_Item_impl_Item s (i : Int) [x] = some (s.take i ++ x :: s.drop i) := by
  unfold M.slices_Insert_impl_Item_impl_Item
  have g1 : gslice s (i : Int) (s.length : Int) = some (s.drop i) := by
    rw [gslice_ok (by omega) (by omega) (by omega)]; simp
  have e1 : ((([x] : List Item).length : Int) == 0) = false := rfl
  simp only [g1, e1, cond_false, Option.bind_some]
  by_cases hc : i = s.length
  · have e2 : ((i : Int) == (s.length : Int)) = true := beq_iff_eq.2 (by omega)
    simp only [e2, cond_true]
    rw [gapp_ok (by simp; omega)]
    simp [hc]
  · have e2 : ((i : Int) == (s.length : Int)) = false := beq_eq_false_iff_ne.2 (by omega)
    have e3 : w64 ((s.length : Int) + (([x] : List Item).length : Int)) = ((s.length + 1 : Nat) : Int) := w64_id (by simp; omega) (by simp; omega)
    have e4 : decide ((s.length : Int) < ((s.length + 1 : Nat) : Int)) = true := decide_eq_true (by omega)
    have g2 : gslice s 0 (i : Int) = some (s.take i) := by
      rw [gslice_ok (by omega) (by omega) (by omega)]; simp
    have e5 : w64 (((s.length + 1 : Nat) : Int) - (i : Int)) = ((s.length + 1 - i : Nat) : Int) := by rw [w64_id (by omega) (by omega)]; omega
    have g3 : gappz (s.take i) ((s.length + 1 - i : Nat) : Int) ((0, [], 0) : Item) = some (s.take i ++ List.replicate (s.length + 1 - i) ((0, [], 0) : Item)) := by
      unfold gappz; rw [if_pos (by simp; omega)]; simp
    simp only [e2, cond_false, e3, e4, cond_true, g2, e5, g3, Option.bind_some]
    have hA : (s.take i).length = i := by rw [List.length_take]; omega
    have hL : (s.take i ++ List.replicate (s.length + 1 - i) ((0, [], 0) : Item)).length = s.length + 1 := by simp; omega
    have g4 : gslice (s.take i ++ List.replicate (s.length + 1 - i) ((0, [], 0) : Item)) (i : Int) ((s.take i ++ List.replicate (s.length + 1 - i) ((0, [], 0) : Item)).length : Int) = some (List.replicate (s.length + 1 - i) ((0, [], 0) : Item)) := by
      rw [gslice_ok (by omega) (by omega) (by omega)]
      simp only [Int.toNat_natCast, List.take_length]
      rw [List.drop_append_of_le_length (by simp; omega), List.drop_eq_nil_of_le (by simp; omega), List.nil_append]
    have c1 : gcopyAt (s.take i ++ List.replicate (s.length + 1 - i) ((0, [], 0) : Item)) ((i : Int)).toNat (List.replicate (s.length + 1 - i) ((0, [], 0) : Item)).length [x] = s.take i ++ x :: List.replicate (s.length - i) ((0, [], 0) : Item) := by
      rw [Int.toNat_natCast, gcopyAt_mid hA, List.take_of_length_le (l := [x]) (by simp; omega), List.drop_replicate]
      have : s.length + 1 - i - min (List.replicate (s.length + 1 - i) ((0, [], 0) : Item)).length ([x] : List Item).length = s.length - i := by
        simp only [List.length_replicate, List.length_cons, List.length_nil]; omega
      rw [this]; rfl
    have hL2 : (s.take i ++ x :: List.replicate (s.length - i) ((0, [], 0) : Item)).length = s.length + 1 := by simp; omega
    have e6 : w64 ((i : Int) + (([x] : List Item).length : Int)) = ((i + 1 : Nat) : Int) := w64_id (by simp; omega) (by simp; omega)
    have g5 : gslice (s.take i ++ x :: List.replicate (s.length - i) ((0, [], 0) : Item)) ((i + 1 : Nat) : Int) ((s.take i ++ x :: List.replicate (s.length - i) ((0, [], 0) : Item)).length : Int) = some (List.replicate (s.length - i) ((0, [], 0) : Item)) := by
      rw [gslice_ok (by omega) (by omega) (by omega)]
      simp only [Int.toNat_natCast, List.take_length]
      rw [List.drop_append, List.drop_eq_nil_of_le (by simp; omega)]
      have : i + 1 - (s.take i).length = 1 := by simp; omega
      rw [this]; simp
    simp only [g4, c1, e6, g5, Option.bind_some]
    congr 1
    have hA2 : (s.take i ++ [x]).length = i + 1 := by rw [List.length_append, hA]; rfl
    have := gcopyAt_mid (A := s.take i ++ [x]) (B := List.replicate (s.length - i) ((0, [], 0) : Item)) (ys := s.drop i) (n := (List.replicate (s.length - i) ((0, [], 0) : Item)).length) hA2
    rw [List.append_assoc, List.singleton_append] at this
    rw [Int.toNat_natCast, this, List.take_of_length_le (l := s.drop i) (by simp), List.drop_eq_nil_of_le (as := List.replicate (s.length - i) ((0, [], 0) : Item)) (by simp)]
    simp
theorem implPutItem_ok {l : List Item} {x : Item} (h : SmallS l) (hx : x.2.1.length ≤ 1048576) : M.impl_PutItem l (x.1, x.2.1, x.2.2) = some (putItem l x) := by
  unfold M.impl_PutItem putItem
  simp only [h.impl, implItem_ok (x := x) (by omega), Option.bind_some]
  cases h1 : okStore l with
  | false => simp
  | true =>
    cases h2 : isItem x with
    | false => simp
    | true =>
      obtain ⟨hl, hi, hp⟩ := okStore_iff.1 h1
      simp only [Bool.not_true, cond_false, Option.bind_some, placeOf_ok h1, true_and]
      cases ha : l.any (fun y => y.1 == x.1) with
      | true =>
        obtain ⟨hlt, _, _⟩ := place_get hp ha
        simp only [cond_true, copyItems_ok h, implCopy_ok hx, gidx_nat hlt, Option.bind_some, Int.toNat_natCast, putS_found hp ha, List.length_set]
        rw [if_pos hl]
      | false =>
        simp only [cond_false]
        have hpl := placeS_le (l := l) (k := x.1)
        rw [putS_new hp ha]
        have hlen : (l.take (placeS l x.1) ++ x :: l.drop (placeS l x.1)).length = l.length + 1 := by simp; omega
        rw [hlen]
        by_cases h16 : l.length = 16
        · have e : ((l.length : Int) == 16) = true := beq_iff_eq.2 (by omega)
          simp only [e, cond_true]
          rw [if_neg (by omega)]
        · have e : ((l.length : Int) == 16) = false := beq_eq_false_iff_ne.2 (by omega)
          simp only [e, cond_false, copyItems_ok h, implCopy_ok hx, Option.bind_some, insert_ok (x := x) hpl (by omega)]
          rw [if_pos (by omega)]
def dropS (l : List Item) (k : Int) : List Item := l.filter (fun x => x.1 != k)
theorem mem_dropS {l : List Item} {k : Int} {x : Item} : x ∈ dropS l k ↔ x ∈ l ∧ x.1 ≠ k := by unfold dropS; rw [List.mem_filter]; simp
theorem dropS_sub {l : List Item} {k : Int} : (dropS l k).Sublist l := List.filter_sublist
def dropItem (l : List Item) (k : Int) : List Item × Bool := if okStore l = true ∧ (l.any fun x => x.1 == k) = true then (dropS l k, true) else ([], false)
theorem specDropItem_ok {l : List Item} {k : Int} (h : SmallS l) : M.spec_DropItem l k = some (dropItem l k) := by
  unfold M.spec_DropItem dropItem
  simp only [h.specv, Option.bind_some, keyAt_ok h.hL]
  cases h1 : okStore l with
  | false => simp
  | true =>
    obtain ⟨hl, hi, hp⟩ := okStore_iff.1 h1
    have he : (l.any fun x => x.1 == k) = (l.findIdx? fun x => x.1 == k).isSome := by
      rw [Bool.eq_iff_iff, List.any_eq_true, List.findIdx?_isSome, List.any_eq_true]
    rw [he]
    cases hf : l.findIdx? (fun x => x.1 == k) with
    | none => simp
    | some i =>
      have e1 : decide ((i : Int) < 0) = false := decide_eq_false (by omega)
      simp only [Bool.not_true, cond_false, Option.bind_some, e1, Option.isSome_some, and_self, if_true]
      refine fold_bind (xs := l) (fun s i => (s, i)) (fun s y => if (y.1 != k) = true then s ++ [y] else s) (fun i s => s.length ≤ i) (fun s => s) (by simp) ?_ ?_ ?_
      · intro s i h hs
        have e1 : decide ((i : Int) < (l.length : Int)) = true := decide_eq_true (by omega)
        simp only [e1, cond_true, gidx_nat h, Option.bind_some, w64_succ (i := i) (by omega)]
        cases hk : l[i].1 != k with
        | true =>
          simp only [cond_true, copyItem_spec (x := l[i]) (by have := isItem_len (hi _ (List.getElem_mem h)); omega), Option.bind_some, if_true]
          rw [gapp_ok (by simp; omega)]
          exact ⟨by first | rfl | trivial, by simp; omega⟩
        | false => exact ⟨by first | rfl | trivial, by simp only [Bool.false_eq_true, if_false]; omega⟩
      · intro s _; simp
      · intro _
        rw [foldl_filter]; simp [dropS]
theorem drop_filter {l : List Item} {k : Int} (hp : l.Pairwise (fun x y => x.1 < y.1)) (h : (l.any fun x => x.1 == k) = true) : l.take (placeS l k) ++ l.drop (placeS l k + 1) = dropS l k := by
  have h1 := filter_lt (k := k) hp
  have h2 := filter_gt (k := k) hp
  rw [if_pos h] at h2
  rw [← h1, ← h2]
  refine sorted_uniq ?_ (hp.sublist dropS_sub) (fun x => ?_)
  · rw [List.pairwise_append]
    refine ⟨hp.sublist List.filter_sublist, hp.sublist List.filter_sublist, fun y hy z hz => ?_⟩
    have h3 : y.1 < k := by simpa using (List.mem_filter.1 hy).2
    have h4 : k < z.1 := by simpa using (List.mem_filter.1 hz).2
    omega
  · simp only [List.mem_append, List.mem_filter, decide_eq_true_eq, mem_dropS]
    constructor
    · rintro (⟨h1, h2⟩ | ⟨h1, h2⟩) <;> exact ⟨h1, by omega⟩
    · rintro ⟨h1, h2⟩
      rcases Int.lt_or_lt_of_ne h2 with h3 | h3
      · exact .inl ⟨h1, h3⟩
      · exact .inr ⟨h1, h3⟩
theorem implDropItem_ok {l : List Item} {k : Int} (h : SmallS l) : M.impl_DropItem l k = some (dropItem l k) := by
  unfold M.impl_DropItem dropItem
  simp only [h.impl, Option.bind_some]
  cases h1 : okStore l with
  | false => simp
  | true =>
    obtain ⟨hl, hi, hp⟩ := okStore_iff.1 h1
    simp only [Bool.not_true, cond_false, placeOf_ok h1, Option.bind_some]
    cases ha : l.any (fun x => x.1 == k) with
    | false => simp
    | true =>
      obtain ⟨hlt, _, _⟩ := place_get hp ha
      simp only [Bool.not_true, cond_false, copyItems_ok h, Option.bind_some, and_self, if_true]
      unfold M.slices_Delete_impl_Item_impl_Item
      have e1 : w64 ((placeS l k : Int) + 1) = ((placeS l k + 1 : Nat) : Int) := w64_succ (by omega)
      have e2 : ((placeS l k : Int) == ((placeS l k + 1 : Nat) : Int)) = false := beq_eq_false_iff_ne.2 (by omega)
      have g0 : gthree (placeS l k : Int) ((placeS l k + 1 : Nat) : Int) (l.length : Int) l.length = some () := by
        unfold gthree; rw [if_pos (by omega)]
      have g1 : gslice l 0 (placeS l k : Int) = some (l.take (placeS l k)) := by
        rw [gslice_ok (by omega) (by omega) (by omega)]; simp
      have g2 : gslice l ((placeS l k + 1 : Nat) : Int) (l.length : Int) = some (l.drop (placeS l k + 1)) := by
        rw [gslice_ok (by omega) (by omega) (by omega)]; simp
      simp only [e1, g0, e2, cond_false, g1, g2, Option.bind_some]
      rw [gapp_ok (by simp; omega)]
      simp only [Option.bind_some, drop_filter hp ha]

/-! ## What is drawn -/
theorem NearI.le {x : Item} (h : NearI x) : x.2.1.length ≤ 1048576 := by have := h.2.1.1; omega
section
variable {code : List UInt8}
end
end Go.Vs

namespace Go.Vs

end Go.Vs

namespace Go.Vs

end Go.Vs

namespace Go.Vs

end Go.Vs

namespace Go.Vs

noncomputable def G.sift {α : Type} (cmp : α → α → Option Int) (data_0 : List α) (lo_1 : Int) (hi_2 : Int) (first_3 : Int) : Option ((List α)) :=
  Option.bind (loopM (fun (s2 : (List α) × (Int)) => (bif decide (hi_2 ≤ (w64 ((w64 (2 * s2.2)) + 1))) then
  some (.inr (.inl s2.1))
 else
  Option.bind ((bif decide ((w64 ((w64 ((w64 (2 * s2.2)) + 1)) + 1)) < hi_2) then
  (gidx s2.1 (w64 (first_3 + (w64 ((w64 (2 * s2.2)) + 1))))).bind fun x8 =>
  (gidx s2.1 (w64 ((w64 (first_3 + (w64 ((w64 (2 * s2.2)) + 1)))) + 1))).bind fun x15 =>
  (cmp x8 x15).bind fun r23 =>
  some (decide (r23 < 0))
 else
  some false)) fun o6 =>
  Option.bind ((bif o6 then
  some (w64 ((w64 ((w64 (2 * s2.2)) + 1)) + 1))
 else
  some (w64 ((w64 (2 * s2.2)) + 1)))) fun o29 =>
  (gidx s2.1 (w64 (first_3 + s2.2))).bind fun x32 =>
  (gidx s2.1 (w64 (first_3 + o29))).bind fun x39 =>
  (cmp x32 x39).bind fun r47 =>
  (bif !(decide (r47 < 0)) then
  some (.inr (.inr s2.1))
 else
  (gidx s2.1 (w64 (first_3 + o29))).bind fun x52 =>
  (gidx s2.1 (w64 (first_3 + s2.2))).bind fun x59 =>
  (gidx s2.1 (w64 (first_3 + s2.2))).bind fun x66 =>
  (gidx (s2.1.set (w64 (first_3 + s2.2)).toNat x52) (w64 (first_3 + o29))).bind fun x72 =>
  some (.inl (((s2.1.set (w64 (first_3 + s2.2)).toNat x52).set (w64 (first_3 + o29)).toNat x59), o29))))) (data_0, lo_1)) (selim (fun t78 => some t78)
   (fun t81 => some t81))

noncomputable def G.heap {α : Type} (cmp : α → α → Option Int) (data_0 : List α) (a_1 : Int) (b_2 : Int) : Option ((List α)) :=
  Option.bind (loopM (fun (s2 : (List α) × (Int)) => (bif decide (0 ≤ s2.2) then
  (G.sift cmp s2.1 s2.2 (w64 (b_2 - a_1)) a_1).bind fun r6 =>
  some (.inl (r6, w64 (s2.2 - 1)))
 else
  some (.inr s2.1))) (data_0, w64 ((w64 ((w64 (b_2 - a_1)) - 1)).tdiv 2))) fun o1 =>
  Option.bind (loopM (fun (s14 : (List α) × (Int)) => (bif decide (0 ≤ s14.2) then
  (gidx s14.1 (w64 (a_1 + s14.2))).bind fun x18 =>
  (gidx s14.1 a_1).bind fun x25 =>
  (gidx s14.1 a_1).bind fun x32 =>
  (gidx (s14.1.set a_1.toNat x18) (w64 (a_1 + s14.2))).bind fun x38 =>
  (G.sift cmp ((s14.1.set a_1.toNat x18).set (w64 (a_1 + s14.2)).toNat x25) 0 s14.2 a_1).bind fun r44 =>
  some (.inl (r44, w64 (s14.2 - 1)))
 else
  some (.inr s14.1))) (o1, w64 ((w64 (b_2 - a_1)) - 1))) fun o13 =>
  some o13

noncomputable def G.o2 {α : Type} (cmp : α → α → Option Int) (data_0 : List α) (a_1 : Int) (b_2 : Int) (swaps_3 : Int) : Option (Int × Int × Int) :=
  (gidx data_0 b_2).bind fun x1 =>
  (gidx data_0 a_1).bind fun x8 =>
  (cmp x1 x8).bind fun r16 =>
  (bif decide (r16 < 0) then
  some (b_2, a_1, w64 (swaps_3 + 1))
 else
  some (a_1, b_2, swaps_3))

noncomputable def G.peq {α : Type} (cmp : α → α → Option Int) (data_0 : List α) (a_1 : Int) (b_2 : Int) (pivot_3 : Int) : Option (Int × (List α)) :=
  (gidx data_0 pivot_3).bind fun x1 =>
  (gidx data_0 a_1).bind fun x8 =>
  (gidx data_0 a_1).bind fun x15 =>
  (gidx (data_0.set a_1.toNat x1) pivot_3).bind fun x21 =>
  Option.bind (loopM (fun (s28 : (List α) × (Int) × (Int)) => Option.bind (loopM (fun (s32 : (Int)) => Option.bind ((bif decide (s32 ≤ s28.2.2) then
  (gidx s28.1 a_1).bind fun x36 =>
  (gidx s28.1 s32).bind fun x43 =>
  (cmp x36 x43).bind fun r51 =>
  some (!(decide (r51 < 0)))
 else
  some false)) fun o34 =>
  (bif o34 then
  some (.inl (w64 (s32 + 1)))
 else
  some (.inr s32))) s28.2.1) fun o31 =>
  Option.bind (loopM (fun (s60 : (Int)) => Option.bind ((bif decide (o31 ≤ s60) then
  (gidx s28.1 a_1).bind fun x64 =>
  (gidx s28.1 s60).bind fun x71 =>
  (cmp x64 x71).bind fun r79 =>
  some (decide (r79 < 0))
 else
  some false)) fun o62 =>
  (bif o62 then
  some (.inl (w64 (s60 - 1)))
 else
  some (.inr s60))) s28.2.2) fun o59 =>
  (bif decide (o59 < o31) then
  some (.inr (s28.1, o31))
 else
  (gidx s28.1 o59).bind fun x88 =>
  (gidx s28.1 o31).bind fun x95 =>
  (gidx s28.1 o31).bind fun x102 =>
  (gidx (s28.1.set o31.toNat x88) o59).bind fun x108 =>
  some (.inl (((s28.1.set o31.toNat x88).set o59.toNat x95), w64 (o31 + 1), w64 (o59 - 1))))) (((data_0.set a_1.toNat x1).set pivot_3.toNat x8), w64 (a_1 + 1), w64 (b_2 - 1))) fun o27 =>
  some (o27.2, o27.1)

section
noncomputable abbrev cmpHits : Int × Int → Int × Int → Option Int := fun x y => M.impl_compareHits (x.1, x.2) (y.1, y.2)
end
end Go.Vs

namespace Go.Vs

section
variable {α : Type} [Inhabited α]
def el (d : List α) (i : Nat) : α := d.getD i default
theorem el_lt {d : List α} {i : Nat} (h : i < d.length) : el d i = d[i] := by simp [el, List.getD, h]
theorem gidx_el {d : List α} {i : Nat} (h : i < d.length) : gidx d (i : Int) = some (el d i) := by rw [gidx_nat h, el_lt h]
theorem el_set {d : List α} {i k : Nat} {x : α} (h : i < d.length) : el (d.set i x) k = if k = i then x else el d k := by
  unfold el
  simp only [List.getD_eq_getElem?_getD, List.getElem?_set]
  by_cases e : i = k
  · subst e; simp [h]
  · simp [e, Ne.symm e]
def swp (d : List α) (i j : Nat) : List α := (d.set i (el d j)).set j (el d i)
theorem swp_len {d : List α} {i j : Nat} : (swp d i j).length = d.length := by simp [swp]
theorem el_swp {d : List α} {i j k : Nat} (hi : i < d.length) (hj : j < d.length) : el (swp d i j) k = if k = j then el d i else if k = i then el d j else el d k := by
  unfold swp
  rw [el_set (by simpa using hj), el_set hi]
theorem swp_perm {d : List α} {i j : Nat} (hi : i < d.length) (hj : j < d.length) : (swp d i j).Perm d := by
  unfold swp
  rw [el_lt hi, el_lt hj]
  exact List.set_set_perm hi hj

structure PermR (a b : Nat) (d d' : List α) : Prop where
  len : d'.length = d.length
  out : ∀ i, i < a ∨ b ≤ i → el d' i = el d i
  perm : d'.Perm d
theorem PermR.refl {a b : Nat} (d : List α) : PermR a b d d := ⟨rfl, fun _ _ => rfl, List.Perm.refl _⟩
theorem PermR.trans {a b : Nat} {d d' d'' : List α} (h : PermR a b d d') (k : PermR a b d' d'') : PermR a b d d'' :=
  ⟨k.len.trans h.len, fun i hi => (k.out i hi).trans (h.out i hi), k.perm.trans h.perm⟩
theorem PermR.mono {a b a' b' : Nat} {d d' : List α} (h : PermR a b d d') (ha : a' ≤ a) (hb : b ≤ b') : PermR a' b' d d' :=
  ⟨h.len, fun i hi => h.out i (by omega), h.perm⟩
theorem PermR.swp {a b i j : Nat} {d : List α} (h1 : a ≤ i) (h2 : i < b) (h3 : a ≤ j) (h4 : j < b) (h5 : b ≤ d.length) : PermR a b d (swp d i j) :=
  ⟨swp_len, fun k hk => by rw [el_swp (by omega) (by omega), if_neg (by omega), if_neg (by omega)], swp_perm (by omega) (by omega)⟩
theorem PermR.mem {a b : Nat} {d d' : List α} (h : PermR a b d d') (hab : a ≤ b) (hb : b ≤ d.length) {i : Nat} (h1 : a ≤ i) (h2 : i < b) : ∃ j, a ≤ j ∧ j < b ∧ el d' i = el d j := by
  have cut : ∀ (e : List α), e.length = d.length → e = e.take a ++ ((e.take b).drop a ++ e.drop b) := by
    intro e he
    rw [← List.append_assoc]
    have : e.take a ++ (e.take b).drop a = e.take b := by
      have := List.take_append_drop a (e.take b)
      rwa [List.take_take, Nat.min_eq_left hab] at this
    rw [this, List.take_append_drop]
  have hl := h.len
  have e1 : d'.take a = d.take a := by
    apply List.ext_getElem
    · simp [hl]
    · intro k h3 h4
      simp only [List.length_take] at h3 h4
      rw [List.getElem_take, List.getElem_take, ← el_lt, ← el_lt]
      exact h.out k (by omega)
  have e2 : d'.drop b = d.drop b := by
    apply List.ext_getElem
    · simp [hl]
    · intro k h3 h4
      simp only [List.length_drop] at h3 h4
      rw [List.getElem_drop, List.getElem_drop, ← el_lt, ← el_lt]
      exact h.out (b + k) (by omega)
  have hp := h.perm
  rw [cut d' hl, cut d rfl, e1, e2] at hp
  have hp2 := (List.perm_append_right_iff _).1 ((List.perm_append_left_iff _).1 hp)
  have hm : el d' i ∈ (d'.take b).drop a := by
    rw [el_lt (by omega)]
    refine List.mem_iff_getElem.2 ⟨i - a, by simp; omega, ?_⟩
    simp only [List.getElem_drop, List.getElem_take]
    congr 1; omega
  have hm2 := hp2.mem_iff.1 hm
  obtain ⟨k, hk, e⟩ := List.mem_iff_getElem.1 hm2
  simp only [List.length_drop, List.length_take] at hk
  refine ⟨a + k, by omega, by omega, ?_⟩
  rw [← e, el_lt (by omega)]
  simp only [List.getElem_drop, List.getElem_take]
end

structure Lin {α : Type} (lt : α → α → Bool) (p : α → Prop) : Prop where
  irrefl : ∀ x, p x → lt x x = false
  trans : ∀ x y z, p x → p y → p z → lt x y = true → lt y z = true → lt x z = true
  total : ∀ x y, p x → p y → x ≠ y → lt x y = true ∨ lt y x = true
theorem Lin.asymm {α : Type} {lt : α → α → Bool} {p : α → Prop} (h : Lin lt p) {x y : α} (hx : p x) (hy : p y) (hl : lt x y = true) : lt y x = false := by
  cases e : lt y x with
  | false => rfl
  | true => have := h.trans x y x hx hy hx hl e; rw [h.irrefl x hx] at this; cases this
theorem Lin.ntrans {α : Type} {lt : α → α → Bool} {p : α → Prop} (h : Lin lt p) {x y z : α} (hx : p x) (hy : p y) (hz : p z) (h1 : lt x y = false) (h2 : lt y z = false) : lt x z = false := by
  cases e : lt x z with
  | false => rfl
  | true =>
    rcases Classical.em (x = y) with rfl | hne
    · rw [h2] at e; cases e
    · rcases h.total x y hx hy hne with h' | h'
      · rw [h1] at h'; cases h'
      · have := h.trans y x z hy hx hz h' e
        rw [h2] at this; cases this
def CmpOk {α : Type} (cmp : α → α → Option Int) (lt : α → α → Bool) (p : α → Prop) : Prop := ∀ x y, p x → p y → ∃ r, cmp x y = some r ∧ decide (r < 0) = lt x y

def AllP {α : Type} [Inhabited α] (p : α → Prop) (d : List α) : Prop := ∀ i, i < d.length → p (el d i)
theorem AllP.of {α : Type} [Inhabited α] {p : α → Prop} {d : List α} (h : ∀ x ∈ d, p x) : AllP p d := fun i hi => h _ (by rw [el_lt hi]; exact List.getElem_mem _)
theorem AllP.perm {α : Type} [Inhabited α] {p : α → Prop} {d d' : List α} (h : AllP p d) (hp : d'.Perm d) : AllP p d' := by
  refine AllP.of fun x hx => ?_
  obtain ⟨i, hi, e⟩ := List.mem_iff_getElem.1 (hp.mem_iff.1 hx)
  rw [← e, ← el_lt hi]; exact h i hi
def Asc {α : Type} [Inhabited α] (lt : α → α → Bool) (a b : Nat) (d : List α) : Prop := ∀ i j, a ≤ i → i < j → j < b → lt (el d j) (el d i) = false
end Go.Vs

namespace Go.Vs

theorem w64_pred {j : Nat} (h : 1 ≤ j) (h2 : j < 4000000000000000000) : w64 ((j : Int) - 1) = ((j - 1 : Nat) : Int) := by rw [w64_id (by omega) (by omega)]; omega

section
variable {α : Type} {cmp : α → α → Option Int} {lt : α → α → Bool} {p : α → Prop}
theorem cmp_of (hc : CmpOk cmp lt p) {x y : α} (hx : p x) (hy : p y) : (cmp x y).bind (fun r => some (decide (r < 0))) = some (lt x y) := by
  obtain ⟨r, h1, h2⟩ := hc x y hx hy
  rw [h1, Option.bind_some, h2]
end

section
variable {α : Type} [Inhabited α] {cmp : α → α → Option Int} {lt : α → α → Bool} {p : α → Prop}
theorem gidx_set {d : List α} {i j : Nat} {x : α} (hj : j < d.length) : gidx (d.set i x) (j : Int) = some (el (d.set i x) j) := gidx_el (by simpa using hj)
theorem swp_def (d : List α) (i j : Nat) : (d.set i (el d j)).set j (el d i) = swp d i j := rfl
theorem ins_inner (hc : CmpOk cmp lt p) (hl : Lin lt p) {a i : Nat} {d0 : List α} (hi : i < d0.length) (hn : d0.length < 1000000000) (hp : AllP p d0) : ∀ (d : List α) (j : Nat), a ≤ j → j ≤ i → PermR a (i + 1) d0 d →
    (∀ x y, a ≤ x → x < y → y ≤ i → x ≠ j → y ≠ j → lt (el d y) (el d x) = false) → (∀ y, j < y → y ≤ i → lt (el d y) (el d j) = false) →
    ∃ d', loopM (fun (s7 : (List α) × (Int)) => Option.bind ((bif decide ((a : Int) < s7.2) then
  (gidx s7.1 s7.2).bind fun x12 =>
  (gidx s7.1 (w64 (s7.2 - 1))).bind fun x19 =>
  (cmp x12 x19).bind fun r27 =>
  some (decide (r27 < 0))
 else
  some false)) fun o10 =>
  (bif o10 then
  (gidx s7.1 (w64 (s7.2 - 1))).bind fun x34 =>
  (gidx s7.1 s7.2).bind fun x41 =>
  (gidx s7.1 s7.2).bind fun x48 =>
  (gidx (s7.1.set s7.2.toNat x34) (w64 (s7.2 - 1))).bind fun x54 =>
  some (.inl (((s7.1.set s7.2.toNat x34).set (w64 (s7.2 - 1)).toNat x41), w64 (s7.2 - 1)))
 else
  some (.inr s7.1))) (d, (j : Int)) = some d' ∧ PermR a (i + 1) d0 d' ∧ Asc lt a (i + 1) d' := by
  intro d j
  induction j generalizing d with
  | zero =>
    intro ha _ hP h1 h2
    have e1 : decide ((a : Int) < ((0 : Nat) : Int)) = false := decide_eq_false (by omega)
    rw [loopM_eq]
    simp only [e1, cond_false, Option.bind_some, selim]
    refine ⟨d, rfl, hP, fun x y hx hxy hy => ?_⟩
    by_cases hx0 : x = 0
    · subst hx0; exact h2 y hxy (by omega)
    · exact h1 x y hx hxy (by omega) hx0 (by omega)
  | succ j ih =>
    intro ha hji hP h1 h2
    have hlen := hP.len
    have hpd := hp.perm hP.perm
    have ej : w64 (((j + 1 : Nat) : Int) - 1) = (j : Int) := w64_pred (by omega) (by omega)
    rw [loopM_eq]
    by_cases haj : a < j + 1
    · have e1 : decide ((a : Int) < ((j + 1 : Nat) : Int)) = true := decide_eq_true (by omega)
      simp only [e1, cond_true, ej, gidx_el (d := d) (i := j + 1) (by omega), gidx_el (d := d) (i := j) (by omega), Option.bind_some, cmp_of hc (hpd (j + 1) (by omega)) (hpd j (by omega))]
      cases hlt : lt (el d (j + 1)) (el d j) with
      | true =>
        simp only [cond_true, gidx_set (d := d) (i := j + 1) (j := j) (x := el d j) (by omega), Option.bind_some, Int.toNat_natCast, swp_def, selim]
        have sw : ∀ k, el (swp d (j + 1) j) k = if k = j then el d (j + 1) else if k = j + 1 then el d j else el d k := fun k => el_swp (by omega) (by omega)
        refine ih (swp d (j + 1) j) (by omega) (by omega) (hP.trans (PermR.swp (by omega) (by omega) (by omega) (by omega) (by omega))) ?_ ?_
        · intro x y hx hxy hy hxj hyj
          rw [sw, sw, if_neg hyj, if_neg hxj]
          by_cases hyj1 : y = j + 1
          · subst hyj1
            rw [if_pos rfl, if_neg (by omega)]
            exact h1 x j hx (by omega) (by omega) (by omega) (by omega)
          · rw [if_neg hyj1]
            by_cases hxj1 : x = j + 1
            · subst hxj1
              rw [if_pos rfl]
              exact h1 j y (by omega) (by omega) hy (by omega) hyj1
            · rw [if_neg hxj1]
              exact h1 x y hx hxy hy hxj1 hyj1
        · intro y hy hyi
          rw [sw, sw, if_neg (by omega), if_pos rfl]
          by_cases hyj1 : y = j + 1
          · subst hyj1
            rw [if_pos rfl]
            exact hl.asymm (hpd _ (by omega)) (hpd _ (by omega)) hlt
          · rw [if_neg hyj1]
            exact h2 y (by omega) hyi
      | false =>
        simp only [cond_false, selim]
        refine ⟨d, rfl, hP, fun x y hx hxy hy => ?_⟩
        by_cases hxj : x = j + 1
        · subst hxj; exact h2 y hxy (by omega)
        · by_cases hyj : y = j + 1
          · subst hyj
            by_cases hxj2 : x = j
            · subst hxj2; exact hlt
            · exact hl.ntrans (hpd _ (by omega)) (hpd j (by omega)) (hpd _ (by omega)) hlt (h1 x j hx (by omega) (by omega) hxj (by omega))
          · exact h1 x y hx hxy (by omega) hxj hyj
    · have e1 : decide ((a : Int) < ((j + 1 : Nat) : Int)) = false := decide_eq_false (by omega)
      have : a = j + 1 := by omega
      simp only [e1, cond_false, Option.bind_some, selim]
      refine ⟨d, rfl, hP, fun x y hx hxy hy => ?_⟩
      by_cases hx0 : x = j + 1
      · subst hx0; exact h2 y hxy (by omega)
      · exact h1 x y hx hxy (by omega) hx0 (by omega)
end
end Go.Vs

namespace Go.Vs

section
variable {α : Type} [Inhabited α] {cmp : α → α → Option Int} {lt : α → α → Bool} {p : α → Prop}
end
end Go.Vs

namespace Go.Vs

theorem loop_ex {S R U : Type} {f : S → Option (S ⊕ R)} (J : S → Prop) (μ : S → Nat) (Z : R → Prop) (step : ∀ s, J s → (∃ s', f s = some (.inl s') ∧ J s' ∧ μ s' < μ s) ∨ ∃ r, f s = some (.inr r) ∧ Z r) {s : S} (hs : J s) {c : R → Option U} {P : U → Prop}
    (hk : ∀ r, Z r → ∃ u, c r = some u ∧ P u) : ∃ u, (loopM f s).bind c = some u ∧ P u := by
  obtain ⟨r, h1, h2⟩ := loopM_ind J μ Z step s hs
  obtain ⟨u, h3, h4⟩ := hk r h2
  exact ⟨u, by rw [h1]; exact h3, h4⟩

section
variable {α : Type} [Inhabited α] {cmp : α → α → Option Int} {lt : α → α → Bool} {p : α → Prop}

structure Parted (lt : α → α → Bool) (a b : Nat) (d : List α) (m : Nat) (d' : List α) : Prop where
  ge : a ≤ m
  le : m < b
  perm : PermR a b d d'
  low : ∀ i, a ≤ i → i < m → lt (el d' i) (el d' m) = true
  high : ∀ i, m < i → i < b → lt (el d' i) (el d' m) = false
end
end Go.Vs

namespace Go.Vs

section
variable {α : Type} [Inhabited α] {cmp : α → α → Option Int} {lt : α → α → Bool} {p : α → Prop}

def NIn (lt : α → α → Bool) (a0 b0 a b : Nat) (d : List α) : Prop := ∀ i j, a0 ≤ i → i < j → j < b0 → ¬ (a ≤ i ∧ j < b) → lt (el d j) (el d i) = false
theorem NIn.perm {a0 b0 a b : Nat} {d d' : List α} (h : NIn lt a0 b0 a b d) (hP : PermR a b d d') (ha : a0 ≤ a) (hab : a ≤ b) (hb : b ≤ b0) (hb0 : b0 ≤ d.length) : NIn lt a0 b0 a b d' := by
  intro i j h1 h2 h3 h4
  have cl : ∀ k, ∃ k', el d' k = el d k' ∧ ((a ≤ k ∧ k < b) → a ≤ k' ∧ k' < b) ∧ (¬ (a ≤ k ∧ k < b) → k' = k) := by
    intro k
    by_cases hk : a ≤ k ∧ k < b
    · obtain ⟨k', g1, g2, g3⟩ := hP.mem hab (by omega) hk.1 hk.2
      exact ⟨k', g3, fun _ => ⟨g1, g2⟩, fun h => absurd hk h⟩
    · exact ⟨k, hP.out k (by omega), fun h => absurd h hk, fun _ => rfl⟩
  obtain ⟨i', e1, q1, q2⟩ := cl i
  obtain ⟨j', e2, q3, q4⟩ := cl j
  rw [e1, e2]
  by_cases hi : a ≤ i ∧ i < b
  · have := q1 hi
    by_cases hj : a ≤ j ∧ j < b
    · exact absurd ⟨hi.1, hj.2⟩ h4
    · have := q4 hj; subst this; exact h i' j' (by omega) (by omega) h3 (by omega)
  · have := q2 hi; subst this
    by_cases hj : a ≤ j ∧ j < b
    · have := q3 hj; exact h i' j' h1 (by omega) (by omega) (by omega)
    · have := q4 hj; subst this; exact h i' j' h1 h2 h3 (by omega)
theorem NIn.done {a0 b0 a b : Nat} {d : List α} (h : NIn lt a0 b0 a b d) (hA : Asc lt a b d) : Asc lt a0 b0 d := by
  intro i j h1 h2 h3
  by_cases hc : a ≤ i ∧ j < b
  · exact hA i j hc.1 h2 hc.2
  · exact h i j h1 h2 h3 hc
end
end Go.Vs

namespace Go.Vs

abbrev Hit := Int × Int
def ltH (x y : Hit) : Bool := decide (x.2 < y.2 ∨ x.2 = y.2 ∧ x.1 < y.1)
theorem ltH_iff {x y : Hit} : ltH x y = true ↔ x.2 < y.2 ∨ x.2 = y.2 ∧ x.1 < y.1 := by simp [ltH]
theorem ltH_false {x y : Hit} : ltH x y = false ↔ ¬ (x.2 < y.2 ∨ x.2 = y.2 ∧ x.1 < y.1) := by simp [ltH]
theorem linH : Lin ltH (fun _ => True) where
  irrefl x _ := by rw [ltH_false]; omega
  trans x y z _ _ _ h1 h2 := by rw [ltH_iff] at *; omega
  total x y _ _ h := by
    rw [ltH_iff, ltH_iff]
    by_cases e : x.2 = y.2
    · have : x.1 ≠ y.1 := fun e2 => h (Prod.ext e2 e)
      omega
    · omega
theorem cmpOr_ok (a b : Int) : M.cmp_Or_int [a, b] = some (if a = 0 then b else a) := by
  unfold M.cmp_Or_int
  by_cases ha : a = 0
  · subst ha
    by_cases hb : b = 0
    · subst hb
      rw [loopM_eq]
      have e0 : decide ((0 : Int) < (([0, 0] : List Int).length : Int)) = true := rfl
      have g0 : gidx ([0, 0] : List Int) 0 = some 0 := rfl
      have w0 : w64 ((0 : Int) + 1) = 1 := rfl
      have e1 : decide ((1 : Int) < (([0, 0] : List Int).length : Int)) = true := rfl
      have g1 : gidx ([0, 0] : List Int) 1 = some 0 := rfl
      have w1 : w64 ((1 : Int) + 1) = 2 := rfl
      have e2 : decide ((2 : Int) < (([0, 0] : List Int).length : Int)) = false := rfl
      simp only [e0, cond_true, g0, Option.bind_some, bne_self_eq_false, cond_false, w0, selim]
      rw [loopM_eq]
      simp only [e1, cond_true, g1, Option.bind_some, bne_self_eq_false, cond_false, w1, selim]
      rw [loopM_eq]
      simp only [e2, cond_false, Option.bind_some, selim, if_true]
    · rw [loopM_eq]
      have e0 : decide ((0 : Int) < (([0, b] : List Int).length : Int)) = true := rfl
      have g0 : gidx ([0, b] : List Int) 0 = some 0 := rfl
      have w0 : w64 ((0 : Int) + 1) = 1 := rfl
      have e1 : decide ((1 : Int) < (([0, b] : List Int).length : Int)) = true := rfl
      have g1 : gidx ([0, b] : List Int) 1 = some b := rfl
      simp only [e0, cond_true, g0, Option.bind_some, bne_self_eq_false, cond_false, w0, selim]
      rw [loopM_eq]
      have hb' : (b != 0) = true := by simpa using hb
      simp only [e1, cond_true, g1, Option.bind_some, hb', selim, if_true]
  · rw [loopM_eq]
    have e0 : decide ((0 : Int) < (([a, b] : List Int).length : Int)) = true := rfl
    have g0 : gidx ([a, b] : List Int) 0 = some a := rfl
    have ha' : (a != 0) = true := by simpa using ha
    simp only [e0, cond_true, g0, Option.bind_some, ha', selim, if_neg ha]
theorem compareHits_ok (x y : Hit) : ∃ r, M.impl_compareHits (x.1, x.2) (y.1, y.2) = some r ∧ decide (r < 0) = ltH x y ∧ decide (0 < r) = ltH y x := by
  unfold M.impl_compareHits
  simp only [compare_ok, Option.bind_some, cmpOr_ok]
  refine ⟨_, rfl, ?_, ?_⟩
  · unfold ltH
    apply decide_eq_decide.2
    by_cases h : cmpI x.2 y.2 = 0
    · rw [if_pos h, cmpI_neg]; rw [cmpI_zero] at h; omega
    · rw [if_neg h, cmpI_neg]; rw [cmpI_zero] at h; omega
  · unfold ltH
    apply decide_eq_decide.2
    by_cases h : cmpI x.2 y.2 = 0
    · rw [if_pos h, cmpI_pos]; rw [cmpI_zero] at h; omega
    · rw [if_neg h, cmpI_pos]; rw [cmpI_zero] at h; omega
theorem cmpHits_ok : CmpOk cmpHits ltH (fun _ => True) := fun x y _ _ => by
  obtain ⟨r, h1, h2, _⟩ := compareHits_ok x y
  exact ⟨r, h1, h2⟩
theorem less_ok {h : List Hit} {i j : Nat} (hi : i < h.length) (hj : j < h.length) : M.impl_hitHeap_Less h (i : Int) (j : Int) = some (ltH (el h j) (el h i)) := by
  unfold M.impl_hitHeap_Less
  obtain ⟨r, h1, _, h3⟩ := compareHits_ok (el h i) (el h j)
  simp only [gidx_el hi, gidx_el hj, Option.bind_some, h1, h3]
theorem swap_ok {h : List Hit} {i j : Nat} (hi : i < h.length) (hj : j < h.length) : M.impl_hitHeap_Swap h (i : Int) (j : Int) = some (swp h i j) := by
  unfold M.impl_hitHeap_Swap
  simp only [gidx_el hi, gidx_el hj, Option.bind_some, Int.toNat_natCast, gidx_set (d := h) (i := i) (j := j) hj]
  rfl

def HP (n : Nat) (h : List Hit) : Prop := ∀ i, 0 < i → i < n → ltH (el h ((i - 1) / 2)) (el h i) = false
theorem heapUp_ok {h0 : List Hit} (hn : h0.length < 1000000000) : ∀ (m : Nat) (h : List Hit) (j : Nat), j = m → j < h0.length → PermR 0 h0.length h0 h →
    (∀ i, 0 < i → i < h0.length → i ≠ j → ltH (el h ((i - 1) / 2)) (el h i) = false) → (∀ i, 0 < i → i < h0.length → 0 < j → (i - 1) / 2 = j → ltH (el h ((j - 1) / 2)) (el h i) = false) →
    ∃ h', M.container_heap_up__impl_hitHeap h (j : Int) = some h' ∧ PermR 0 h0.length h0 h' ∧ HP h0.length h' := by
  intro m
  induction m using Nat.strongRecOn with
  | _ m ih =>
    intro h j hjm hj hP h1 h2
    have hlen := hP.len
    by_cases hj0 : j = 0
    · subst hj0
      unfold M.container_heap_up__impl_hitHeap
      rw [loopM_eq]
      have e : (w64 ((w64 (((0 : Nat) : Int) - 1)).tdiv 2) == ((0 : Nat) : Int)) = true := rfl
      simp only [e, cond_true, Option.bind_some, selim]
      exact ⟨h, rfl, hP, fun i hi1 hi2 => h1 i hi1 hi2 (by omega)⟩
    · have ep : w64 ((w64 ((j : Int) - 1)).tdiv 2) = (((j - 1) / 2 : Nat) : Int) := by
        rw [w64_pred (by omega) (by omega), Int.tdiv_eq_ediv_of_nonneg (by omega), w64_id (by omega) (by omega)]; omega
      have ene : ((((j - 1) / 2 : Nat) : Int) == (j : Int)) = false := beq_eq_false_iff_ne.2 (by omega)
      have hlp : (j - 1) / 2 < h.length := by omega
      cases hlt : ltH (el h ((j - 1) / 2)) (el h j) with
      | false =>
        unfold M.container_heap_up__impl_hitHeap
        rw [loopM_eq]
        simp only [ep, ene, cond_false, less_ok (h := h) (i := j) (j := (j - 1) / 2) (by omega) hlp, Option.bind_some, hlt, Bool.not_false, cond_true, selim]
        refine ⟨h, rfl, hP, fun i hi1 hi2 => ?_⟩
        by_cases hij : i = j
        · subst hij; exact hlt
        · exact h1 i hi1 hi2 hij
      | true =>
        have sw : ∀ k, el (swp h ((j - 1) / 2) j) k = if k = j then el h ((j - 1) / 2) else if k = (j - 1) / 2 then el h j else el h k := fun k => el_swp hlp (by omega)
        have hstep : M.container_heap_up__impl_hitHeap h (j : Int) = M.container_heap_up__impl_hitHeap (swp h ((j - 1) / 2) j) (((j - 1) / 2 : Nat) : Int) := by
          conv => lhs; unfold M.container_heap_up__impl_hitHeap
          rw [loopM_eq]
          simp only [ep, ene, cond_false, less_ok (h := h) (i := j) (j := (j - 1) / 2) (by omega) hlp, Option.bind_some, hlt, Bool.not_true, cond_false, swap_ok (h := h) (i := (j - 1) / 2) (j := j) hlp (by omega), selim]
          rfl
        rw [hstep]
        have asy := linH.asymm trivial trivial hlt
        refine ih ((j - 1) / 2) (by omega) _ _ rfl (by omega) (hP.trans (PermR.swp (by omega) (by omega) (by omega) (by omega) (by omega))) ?_ ?_
        · intro i hi1 hi2 hip
          rw [sw, sw]
          by_cases hij : i = j
          · subst hij
            rw [if_pos rfl, if_neg (by omega), if_pos rfl]
            exact asy
          · rw [if_neg hij, if_neg hip]
            by_cases hpj : (i - 1) / 2 = j
            · rw [if_pos hpj]
              exact h2 i hi1 hi2 (by omega) hpj
            · rw [if_neg hpj]
              by_cases hpp : (i - 1) / 2 = (j - 1) / 2
              · rw [if_pos hpp]
                have := h1 i hi1 hi2 hij
                rw [hpp] at this
                exact linH.ntrans trivial trivial trivial asy this
              · rw [if_neg hpp]; exact h1 i hi1 hi2 hij
        · intro i hi1 hi2 hp0 hpi
          have hpar := h1 ((j - 1) / 2) hp0 (by omega) (by omega)
          rw [sw, sw, if_neg (by omega), if_neg (by omega)]
          by_cases hij : i = j
          · subst hij; rw [if_pos rfl]; exact hpar
          · rw [if_neg hij, if_neg (by omega)]
            have := h1 i hi1 hi2 hij
            rw [hpi] at this
            exact linH.ntrans trivial trivial trivial hpar this
theorem push_ok {h : List Hit} (hn : h.length < 1000000) (hh : HP h.length h) (x : Hit) : ∃ h', M.container_heap_Push__impl_hitHeap__impl_Hit h (x.1, x.2) = some h' ∧ h'.Perm (x :: h) ∧ HP h'.length h' := by
  unfold M.container_heap_Push__impl_hitHeap__impl_Hit M.impl_hitHeap_Push__impl_Hit M.impl_hitHeap_Len
  rw [gapp_ok (by simp; omega)]
  have hl : (h ++ [(x.1, x.2)]).length = h.length + 1 := by simp
  have e : w64 (((h ++ [(x.1, x.2)]).length : Int) - 1) = (h.length : Int) := by rw [hl, w64_id (by omega) (by omega)]; omega
  simp only [Option.bind_some, e]
  have ea : ∀ k, k < h.length → el (h ++ [(x.1, x.2)]) k = el h k := fun k hk => by
    rw [el_lt (by omega), el_lt hk, List.getElem_append_left hk]
  obtain ⟨h', h1, h2, h3⟩ := heapUp_ok (h0 := h ++ [(x.1, x.2)]) (by omega) h.length _ h.length rfl (by omega) (PermR.refl _)
    (fun i hi1 hi2 hne => by rw [ea _ (by omega), ea _ (by omega)]; exact hh i hi1 (by omega)) (fun i hi1 hi2 _ hpi => by omega)
  rw [h1]
  refine ⟨h', rfl, h2.perm.trans ?_, by rw [h2.len]; exact h3⟩
  exact List.perm_append_comm (l₁ := h) (l₂ := [x])
theorem HP.top {n : Nat} {h : List Hit} (hh : HP n h) : ∀ i, i < n → ltH (el h 0) (el h i) = false := by
  intro i
  induction i using Nat.strongRecOn with
  | _ i ih =>
    intro hi
    by_cases h0 : i = 0
    · subst h0; exact linH.irrefl _ trivial
    · exact linH.ntrans trivial trivial trivial (ih ((i - 1) / 2) (by omega) (by omega)) (hh i (by omega) hi)
theorem heapDown_ok {h0 : List Hit} {n : Nat} (hn : h0.length < 1000000) (hnl : n ≤ h0.length) : ∃ r, M.container_heap_down__impl_hitHeap h0 0 (n : Int) = some r ∧
    ((∀ k, 0 < k → k < n → (k - 1) / 2 ≠ 0 → ltH (el h0 ((k - 1) / 2)) (el h0 k) = false) → PermR 0 n h0 r.2 ∧ HP n r.2) := by
  unfold M.container_heap_down__impl_hitHeap
  refine loop_ex (fun s => ∃ (h : List Hit) (i : Nat), s = (h, (i : Int)) ∧ i ≤ h0.length ∧ h.length = h0.length ∧ ((∀ k, 0 < k → k < n → (k - 1) / 2 ≠ 0 → ltH (el h0 ((k - 1) / 2)) (el h0 k) = false) → PermR 0 n h0 h ∧
      (∀ k, 0 < k → k < n → (k - 1) / 2 ≠ i → ltH (el h ((k - 1) / 2)) (el h k) = false) ∧ (∀ k, 0 < k → k < n → 0 < i → (k - 1) / 2 = i → ltH (el h ((i - 1) / 2)) (el h k) = false))) (fun s => ((h0.length : Int) - s.2).toNat)
    (fun r => (∀ k, 0 < k → k < n → (k - 1) / 2 ≠ 0 → ltH (el h0 ((k - 1) / 2)) (el h0 k) = false) → PermR 0 n h0 r.1 ∧ HP n r.1) ?_
    ⟨h0, 0, rfl, by omega, rfl, fun hh => ⟨PermR.refl _, fun k h1 h2 h3 => hh k h1 h2 h3, fun k _ _ h => absurd h (Nat.lt_irrefl _)⟩⟩ (fun r hr => ⟨_, rfl, hr⟩)
  rintro _ ⟨h, i, rfl, hi, hlen, hJ⟩
  have e1 : w64 ((w64 (2 * (i : Int))) + 1) = ((2 * i + 1 : Nat) : Int) := by rw [w64_id (n := 2 * (i : Int)) (by omega) (by omega), w64_id (by omega) (by omega)]; omega
  have e2 : w64 (((2 * i + 1 : Nat) : Int) + 1) = ((2 * i + 2 : Nat) : Int) := by rw [w64_id (by omega) (by omega)]; omega
  simp only [e1, e2]
  by_cases hc : n ≤ 2 * i + 1
  · right
    have e3 : decide ((n : Int) ≤ ((2 * i + 1 : Nat) : Int)) = true := decide_eq_true (by omega)
    refine ⟨(h, (i : Int)), by simp only [e3, cond_true, Option.bind_some], fun hh => ?_⟩
    obtain ⟨j1, j2, j3⟩ := hJ hh
    exact ⟨j1, fun k k1 k2 => j2 k k1 k2 (by omega)⟩
  · have e3 : decide ((n : Int) ≤ ((2 * i + 1 : Nat) : Int)) = false := decide_eq_false (by omega)
    have e4 : decide (((2 * i + 1 : Nat) : Int) < 0) = false := decide_eq_false (by omega)
    -- the greater child
    obtain ⟨j, hj1, hj2, hj3, hj4⟩ : ∃ j : Nat, (Option.bind ((bif decide (((2 * i + 2 : Nat) : Int) < (n : Int)) then (M.impl_hitHeap_Less h ((2 * i + 2 : Nat) : Int) ((2 * i + 1 : Nat) : Int)).bind fun r12 => some r12 else some false)) fun o10 => (bif o10 then some ((2 * i + 2 : Nat) : Int) else some ((2 * i + 1 : Nat) : Int))) = some (j : Int) ∧ (j - 1) / 2 = i ∧ (0 < j ∧ j < n) ∧ (∀ k, 0 < k → k < n → (k - 1) / 2 = i → ltH (el h j) (el h k) = false) := by
      by_cases hc2 : 2 * i + 2 < n
      · have e5 : decide (((2 * i + 2 : Nat) : Int) < (n : Int)) = true := decide_eq_true (by omega)
        simp only [e5, cond_true, less_ok (h := h) (i := 2 * i + 2) (j := 2 * i + 1) (by omega) (by omega), Option.bind_some]
        cases hlt : ltH (el h (2 * i + 1)) (el h (2 * i + 2)) with
        | true =>
          refine ⟨2 * i + 2, rfl, by omega, by omega, fun k k1 k2 k3 => ?_⟩
          rcases (show k = 2 * i + 1 ∨ k = 2 * i + 2 by omega) with rfl | rfl
          · exact linH.asymm trivial trivial hlt
          · exact linH.irrefl _ trivial
        | false =>
          refine ⟨2 * i + 1, rfl, by omega, by omega, fun k k1 k2 k3 => ?_⟩
          rcases (show k = 2 * i + 1 ∨ k = 2 * i + 2 by omega) with rfl | rfl
          · exact linH.irrefl _ trivial
          · exact hlt
      · have e5 : decide (((2 * i + 2 : Nat) : Int) < (n : Int)) = false := decide_eq_false (by omega)
        simp only [e5, cond_false, Option.bind_some]
        refine ⟨2 * i + 1, rfl, by omega, by omega, fun k k1 k2 k3 => ?_⟩
        have : k = 2 * i + 1 := by omega
        subst this; exact linH.irrefl _ trivial
    have hrw : ∀ {β : Type} (g : Int → Option β), (Option.bind ((bif decide (((2 * i + 2 : Nat) : Int) < (n : Int)) then (M.impl_hitHeap_Less h ((2 * i + 2 : Nat) : Int) ((2 * i + 1 : Nat) : Int)).bind fun r12 => some r12 else some false)) fun o10 => Option.bind (bif o10 then some ((2 * i + 2 : Nat) : Int) else some ((2 * i + 1 : Nat) : Int)) g) = g (j : Int) := by
      intro β g
      rw [← Option.bind_assoc, hj1]; rfl
    simp only [e3, cond_false, e4, Option.bind_some]
    rw [hrw]
    simp only [less_ok (h := h) (i := j) (j := i) (by omega) (by omega), Option.bind_some]
    cases hlt : ltH (el h i) (el h j) with
    | false =>
      right
      refine ⟨(h, (i : Int)), by simp only [Bool.not_false, cond_true], fun hh => ?_⟩
      obtain ⟨j1, j2, j3⟩ := hJ hh
      refine ⟨j1, fun k k1 k2 => ?_⟩
      by_cases hk : (k - 1) / 2 = i
      · rw [hk]; exact linH.ntrans trivial trivial trivial hlt (hj4 k k1 k2 hk)
      · exact j2 k k1 k2 hk
    | true =>
      left
      have sw : ∀ k, el (swp h i j) k = if k = j then el h i else if k = i then el h j else el h k := fun k => el_swp (by omega) (by omega)
      refine ⟨(swp h i j, (j : Int)), by simp only [Bool.not_true, cond_false, swap_ok (h := h) (i := i) (j := j) (by omega) (by omega), Option.bind_some], ⟨swp h i j, j, rfl, by omega, by rw [swp_len]; exact hlen, fun hh => ?_⟩, by simp only; omega⟩
      obtain ⟨j1, j2, j3⟩ := hJ hh
      have asy := linH.asymm trivial trivial hlt
      refine ⟨j1.trans (PermR.swp (by omega) (by omega) (by omega) (by omega) (by omega)), fun k k1 k2 k3 => ?_, fun k k1 k2 k3 k4 => ?_⟩
      · rw [sw, sw, if_neg k3]
        by_cases hkj : k = j
        · subst hkj
          rw [if_pos rfl, if_pos hj2]; exact asy
        · rw [if_neg hkj]
          by_cases hki : k = i
          · subst hki
            rw [if_pos rfl, if_neg (by omega)]
            exact j3 j (by omega) (by omega) (by omega) hj2
          · rw [if_neg hki]
            by_cases hp : (k - 1) / 2 = i
            · rw [if_pos hp]; exact hj4 k k1 k2 hp
            · rw [if_neg hp]; exact j2 k k1 k2 hp
      · rw [sw, sw, if_neg (by omega), if_pos hj2, if_neg (by omega), if_neg (by omega)]
        have := j2 k k1 k2 (by omega)
        rw [k4] at this; exact this
end Go.Vs

namespace Go.Vs

def insH (x : Hit) : List Hit → List Hit
  | [] => [x]
  | y :: r => if ltH x y then x :: y :: r else y :: insH x r
def AscH (l : List Hit) : Prop := l.Pairwise fun x y => ltH y x = false
theorem insH_perm (x : Hit) (l : List Hit) : (insH x l).Perm (x :: l) := by
  induction l with
  | nil => exact List.Perm.refl _
  | cons y r ih =>
    unfold insH
    split
    · exact List.Perm.refl _
    · exact (List.Perm.cons y ih).trans (List.Perm.swap x y r)
theorem insH_asc {x : Hit} {l : List Hit} (h : AscH l) : AscH (insH x l) := by
  induction l with
  | nil => exact List.pairwise_singleton _ _
  | cons y r ih =>
    obtain ⟨h1, h2⟩ := List.pairwise_cons.1 h
    unfold insH
    split
    · rename_i hlt
      refine List.pairwise_cons.2 ⟨fun z hz => ?_, h⟩
      rcases List.mem_cons.1 hz with rfl | hz
      · exact linH.asymm trivial trivial hlt
      · exact linH.ntrans trivial trivial trivial (h1 z hz) (linH.asymm trivial trivial hlt)
    · rename_i hlt
      refine List.pairwise_cons.2 ⟨fun z hz => ?_, ih h2⟩
      rcases List.mem_cons.1 ((insH_perm x r).mem_iff.1 hz) with rfl | hz
      · simpa using hlt
      · exact h1 z hz
theorem ltH_antisymm {x y : Hit} (h1 : ltH x y = false) (h2 : ltH y x = false) : x = y := by
  rcases Classical.em (x = y) with h | h
  · exact h
  · rcases linH.total x y trivial trivial h with h' | h'
    · rw [h1] at h'; cases h'
    · rw [h2] at h'; cases h'
theorem asc_uniq {l m : List Hit} (hl : AscH l) (hm : AscH m) (h : l.Perm m) : l = m :=
  List.Perm.eq_of_pairwise (le := fun x y => ltH y x = false) (fun _ _ _ _ h1 h2 => ltH_antisymm h2 h1) hl hm h
theorem insH_len (x : Hit) (l : List Hit) : (insH x l).length = l.length + 1 := by rw [(insH_perm x l).length_eq]; rfl
theorem insH_take (x : Hit) : ∀ (k : Nat) (l : List Hit), (insH x (l.take k)).take k = (insH x l).take k
  | 0, l => by simp
  | k + 1, [] => by simp
  | k + 1, y :: r => by
    rw [List.take_succ_cons]
    unfold insH
    split
    · rw [List.take_succ_cons, List.take_succ_cons]
      cases k with
      | zero => simp
      | succ k => simp [List.take_take]
    · rw [List.take_succ_cons, List.take_succ_cons, insH_take x k r]
def isort (l : List Hit) : List Hit := l.foldl (fun S x => insH x S) []
theorem isort_spec (l : List Hit) : AscH (isort l) ∧ (isort l).Perm l := by
  have key : ∀ (l S : List Hit), AscH S → AscH (l.foldl (fun S x => insH x S) S) ∧ (l.foldl (fun S x => insH x S) S).Perm (S ++ l) := by
    intro l
    induction l with
    | nil => intro S h; exact ⟨h, by simp⟩
    | cons x r ih =>
      intro S h
      obtain ⟨h1, h2⟩ := ih (insH x S) (insH_asc h)
      refine ⟨h1, h2.trans ?_⟩
      have := List.Perm.append_right r (insH_perm x S)
      exact this.trans (List.perm_middle.symm)
  exact key l [] List.Pairwise.nil
theorem isort_snoc (l : List Hit) (x : Hit) : isort (l ++ [x]) = insH x (isort l) := by simp [isort]
theorem isort_len (l : List Hit) : (isort l).length = l.length := (isort_spec l).2.length_eq
theorem isort_uniq {l m : List Hit} (hm : AscH m) (h : m.Perm l) : isort l = m := asc_uniq (isort_spec l).1 hm ((isort_spec l).2.trans h.symm)
def topH (k : Nat) (l : List Hit) : List Hit := (isort l).take k
theorem topH_snoc (k : Nat) (l : List Hit) (x : Hit) : topH k (l ++ [x]) = (insH x (topH k l)).take k := by
  unfold topH; rw [isort_snoc, insH_take]
theorem topH_asc (k : Nat) (l : List Hit) : AscH (topH k l) := (isort_spec l).1.sublist (List.take_sublist _ _)
theorem topH_len (k : Nat) (l : List Hit) : (topH k l).length = min k l.length := by simp [topH, isort_len]
theorem topH_sub (k : Nat) (l : List Hit) : ∀ x ∈ topH k l, x ∈ l := fun x hx => (isort_spec l).2.mem_iff.1 (List.mem_of_mem_take hx)

/-! ## What the heap keeps -/
theorem pop_ok {h : List Hit} (hn : h.length < 1000000) (h1 : 0 < h.length) (hh : HP h.length h) : ∃ x h', M.container_heap_Pop__impl_hitHeap h = some (x, h') ∧ (h' ++ [x]).Perm h ∧ HP h'.length h' ∧ ∀ y ∈ h, ltH x y = false := by
  unfold M.container_heap_Pop__impl_hitHeap M.impl_hitHeap_Len
  have el1 : w64 ((h.length : Int) - 1) = ((h.length - 1 : Nat) : Int) := w64_pred h1 (by omega)
  have e0 : (0 : Int) = ((0 : Nat) : Int) := rfl
  simp only [Option.bind_some, el1]
  rw [e0, swap_ok h1 (by omega)]
  simp only [Option.bind_some]
  have hs : (swp h 0 (h.length - 1)).length = h.length := swp_len
  obtain ⟨r, hr, hJ⟩ := heapDown_ok (h0 := swp h 0 (h.length - 1)) (n := h.length - 1) (by omega) (by omega)
  have sw : ∀ k, el (swp h 0 (h.length - 1)) k = if k = h.length - 1 then el h 0 else if k = 0 then el h (h.length - 1) else el h k := fun k => el_swp h1 (by omega)
  obtain ⟨j1, j2⟩ := hJ (fun k k1 k2 k3 => by
    rw [sw, sw, if_neg (by omega), if_neg k3, if_neg (by omega), if_neg (by omega)]
    exact hh k k1 (by omega))
  rw [← e0, hr]
  simp only [Option.bind_some]
  unfold M.impl_hitHeap_Pop
  have hl2 : r.2.length = h.length := by rw [j1.len, hs]
  have el2 : w64 ((r.2.length : Int) - 1) = ((h.length - 1 : Nat) : Int) := by rw [hl2]; exact el1
  have hlast : el r.2 (h.length - 1) = el h 0 := by rw [j1.out _ (by omega), sw, if_pos rfl]
  rw [el2, gidx_el (by omega), gslice_ok (by omega) (by omega) (by omega)]
  simp only [Option.bind_some, Int.toNat_natCast, hlast, Int.toNat_zero, List.drop_zero]
  refine ⟨_, _, rfl, ?_, ?_, ?_⟩
  · have : r.2.take (h.length - 1) ++ [el h 0] = r.2 := by
      have := List.take_succ_eq_append_getElem (l := r.2) (i := h.length - 1) (by omega)
      rw [← el_lt (by omega), hlast, show h.length - 1 + 1 = r.2.length by omega, List.take_length] at this
      exact this.symm
    show (r.2.take (h.length - 1) ++ [el h 0]).Perm h
    rw [this]
    exact j1.perm.trans (swp_perm h1 (by omega))
  · have ht : (r.2.take (h.length - 1)).length = h.length - 1 := by simp; omega
    rw [ht]
    intro i i1 i2
    have e : ∀ k, k < h.length - 1 → el (r.2.take (h.length - 1)) k = el r.2 k := fun k hk => by
      rw [el_lt (by omega), el_lt (by omega), List.getElem_take]
    rw [e _ (by omega), e _ (by omega)]
    exact j2 i i1 i2
  · intro y hy
    obtain ⟨i, hi, rfl⟩ := List.mem_iff_getElem.1 hy
    rw [← el_lt hi]
    exact hh.top i hi
theorem offer_ok {T kept : List Hit} {k : Nat} (hk : k ≤ 1000) (hT : AscH T) (hTk : T.length ≤ k) (hh : HP kept.length kept) (hp : kept.Perm T) (x : Hit) :
    ∃ kept', M.impl_nearestHits_offer ((k : Int), kept) (x.1, x.2) = some ((k : Int), kept') ∧ HP kept'.length kept' ∧ kept'.Perm ((insH x T).take k) := by
  unfold M.impl_nearestHits_offer
  have hkl := hp.length_eq
  obtain ⟨k1, h1, h2, h3⟩ := push_ok (h := kept) (by omega) hh x
  simp only [h1, Option.bind_some]
  have hl1 : k1.length = T.length + 1 := by rw [h2.length_eq]; simp [hkl]
  have hp1 : k1.Perm (insH x T) := h2.trans ((List.Perm.cons x hp).trans (insH_perm x T).symm)
  have hil := insH_len x T
  by_cases hc : k < k1.length
  · have e1 : decide ((k : Int) < (k1.length : Int)) = true := decide_eq_true (by omega)
    obtain ⟨mx, k2, g1, g2, g3, g4⟩ := pop_ok (h := k1) (by omega) (by omega) h3
    simp only [e1, cond_true, g1, Option.bind_some]
    refine ⟨k2, rfl, g3, ?_⟩
    have hI := insH_asc (x := x) hT
    have hne : insH x T ≠ [] := by intro e; rw [e] at hil; simp at hil
    have hdl : insH x T = (insH x T).take k ++ [(insH x T).getLast hne] := by
      have h := List.dropLast_concat_getLast hne
      rw [List.dropLast_eq_take, show (insH x T).length - 1 = k by omega] at h
      exact h.symm
    have hmx : mx = (insH x T).getLast hne := by
      refine ltH_antisymm (g4 _ (hp1.mem_iff.2 (List.getLast_mem hne))) ?_
      have hmem : mx ∈ insH x T := hp1.mem_iff.1 (g2.mem_iff.1 (by simp))
      rw [hdl] at hmem hI
      rcases List.mem_append.1 hmem with h | h
      · exact (List.pairwise_append.1 hI).2.2 _ h _ (by simp)
      · rw [List.mem_singleton.1 h]; exact linH.irrefl _ trivial
    have := (g2.trans hp1)
    rw [hdl, ← hmx] at this
    exact (List.perm_append_right_iff _).1 this
  · have e1 : decide ((k : Int) < (k1.length : Int)) = false := decide_eq_false (by omega)
    simp only [e1, cond_false]
    refine ⟨k1, rfl, h3, ?_⟩
    rw [List.take_of_length_le (by omega)]; exact hp1
theorem inOrder_ok {T kept : List Hit} (hT : AscH T) (hp : kept.Perm T) (hnd : T.Nodup) (hl : T.length ≤ 16) (k : Int) : M.impl_nearestHits_inOrder (k, kept) = some T := by
  unfold M.impl_nearestHits_inOrder M.slices_SortedFunc_impl_Hit__slices_Values_impl_hitHeap_impl_Hit_1__impl_compareHits M.slices_Collect_impl_Hit__slices_Values_impl_hitHeap_impl_Hit_1 M.slices_AppendSeq_impl_Hit_impl_Hit__slices_Values_impl_hitHeap_impl_Hit_1 M.slices_Values_impl_hitHeap_impl_Hit M.slices_SortFunc_impl_Hit_impl_Hit__impl_compareHits
  have hkl := hp.length_eq
  have hcoll : M.coll kept = some kept := by unfold M.coll; rw [if_pos (by omega)]
  simp only [Option.bind_some, hcoll]
  obtain ⟨d', h1, h2, h3⟩ := sortD_ok (cmp := cmpHits) (lt := ltH) (xs := kept) (by omega) (fun x _ y _ => cmpHits_ok x y trivial trivial) (fun x _ => linH.irrefl x trivial) (fun x _ y _ z _ => linH.trans x y z trivial trivial trivial) (fun x _ y _ => linH.total x y trivial trivial)
  rw [h1]
  simp only [Option.bind_some]
  exact congrArg some (asc_uniq h3 hT (h2.trans hp))

/-! ## The searches -/
theorem nearer_ok (x y : Hit) : M.spec_nearer (x.1, x.2) (y.1, y.2) = some (ltH x y) := by
  unfold M.spec_nearer ltH
  by_cases h1 : x.2 < y.2
  · simp [h1]
  · by_cases h2 : x.2 = y.2
    · simp [h2]
    · have h3 : (x.2 == y.2) = false := beq_eq_false_iff_ne.2 h2
      simp [h1, h2, h3]
def cmpT : Hit → Hit → Option Int := fun x y => some (if ltH x y then -1 else 0)
theorem cmpT_ok : CmpOk cmpT ltH (fun _ => True) := fun x y _ _ => ⟨_, rfl, by cases h : ltH x y <;> simp⟩
theorem addHit_ok {S : List Hit} {k : Nat} (hS : AscH S) (hl : S.length ≤ 1000) (hk : k ≤ 1000) (x : Hit) : M.spec_addHit S (x.1, x.2) (k : Int) = some ((insH x S).take k) := by
  unfold M.spec_addHit
  rw [gapp_ok (by simp; omega)]
  simp only [Option.bind_some, List.nil_append]
  rw [gapp_ok (by simp; omega)]
  simp only [Option.bind_some]
  have hlen : (S ++ [(x.1, x.2)]).length = S.length + 1 := by simp
  have e1 : w64 (((S ++ [(x.1, x.2)]).length : Int) - 1) = (S.length : Int) := by rw [hlen, w64_id (by omega) (by omega)]; omega
  have hf : (fun (s17 : (List (Int × Int)) × (Int)) => Option.bind ((bif decide (0 < s17.2) then
  (gidx s17.1 s17.2).bind fun x22 =>
  (gidx s17.1 (w64 (s17.2 - 1))).bind fun x29 =>
  (M.spec_nearer (x22.1, x22.2) (x29.1, x29.2)).bind fun r37 =>
  some r37
 else
  some false)) fun o20 =>
  (bif o20 then
  (gidx s17.1 s17.2).bind fun x44 =>
  (gidx s17.1 (w64 (s17.2 - 1))).bind fun x54 =>
  (gidx s17.1 s17.2).bind fun x61 =>
  (gidx (s17.1.set s17.2.toNat (x54.1, x54.2)) (w64 (s17.2 - 1))).bind fun x68 =>
  some (.inl (((s17.1.set s17.2.toNat (x54.1, x54.2)).set (w64 (s17.2 - 1)).toNat (x44.1, x44.2)), w64 (s17.2 - 1)))
 else
  some (.inr s17.1) : Option ((List Hit × Int) ⊕ List Hit))) = (fun (s7 : (List Hit) × (Int)) => Option.bind ((bif decide (((0 : Nat) : Int) < s7.2) then
  (gidx s7.1 s7.2).bind fun x12 =>
  (gidx s7.1 (w64 (s7.2 - 1))).bind fun x19 =>
  (cmpT x12 x19).bind fun r27 =>
  some (decide (r27 < 0))
 else
  some false)) fun o10 =>
  (bif o10 then
  (gidx s7.1 (w64 (s7.2 - 1))).bind fun x34 =>
  (gidx s7.1 s7.2).bind fun x41 =>
  (gidx s7.1 s7.2).bind fun x48 =>
  (gidx (s7.1.set s7.2.toNat x34) (w64 (s7.2 - 1))).bind fun x54 =>
  some (.inl (((s7.1.set s7.2.toNat x34).set (w64 (s7.2 - 1)).toNat x41), w64 (s7.2 - 1)))
 else
  some (.inr s7.1))) := by
    funext s
    have ec : ∀ a b : Hit, ((M.spec_nearer (a.1, a.2) (b.1, b.2)).bind fun r37 => some r37) = ((cmpT a b).bind fun r27 => some (decide (r27 < 0))) := by
      intro a b
      rw [nearer_ok, cmp_of cmpT_ok trivial trivial]; rfl
    have ec2 : ∀ (a : Option Hit) (b : Option Hit) (c : Option Hit) (g : Hit → Option Hit) (F : Hit → Hit → Option ((List Hit × Int) ⊕ List Hit)), (a.bind fun x44 => b.bind fun x54 => c.bind fun x61 => (g x54).bind fun _ => F x54 x44) = (b.bind fun x34 => a.bind fun x41 => c.bind fun x48 => (g x34).bind fun _ => F x34 x41) := by
      intro a b c g F
      cases a <;> cases b <;> rfl
    simp only [ec, Int.cast_ofNat_Int]
    congr 1
    funext o
    cases o with
    | false => rfl
    | true => exact ec2 (gidx s.1 s.2) (gidx s.1 (w64 (s.2 - 1))) (gidx s.1 s.2) (fun y => gidx (s.1.set s.2.toNat y) (w64 (s.2 - 1))) (fun y z => some (.inl (((s.1.set s.2.toNat y).set (w64 (s.2 - 1)).toNat z), w64 (s.2 - 1))))
  rw [hf, e1]
  have ea : ∀ i, i < S.length → el (S ++ [(x.1, x.2)]) i = el S i := fun i hi => by rw [el_lt (by omega), el_lt hi, List.getElem_append_left hi]
  obtain ⟨d', h1, h2, h3⟩ := ins_inner cmpT_ok linH (a := 0) (i := S.length) (d0 := S ++ [(x.1, x.2)]) (by omega) (by omega) (fun _ _ => trivial) (S ++ [(x.1, x.2)]) S.length (Nat.zero_le _) (Nat.le_refl _) (PermR.refl _)
    (fun u v _ huv hv hu' hv' => by
      rw [ea u (by omega), ea v (by omega), el_lt (by omega), el_lt (by omega)]
      exact List.pairwise_iff_getElem.1 hS u v _ _ huv) (fun y h h' => by omega)
  rw [h1]
  have hdl : d'.length = S.length + 1 := by rw [h2.len, hlen]
  have hasc : AscH d' := by
    refine List.pairwise_iff_getElem.2 fun i j hi hj hij => ?_
    have := h3 i j (Nat.zero_le _) hij (by omega)
    rwa [el_lt hi, el_lt hj] at this
  have hd : d' = insH x S := asc_uniq hasc (insH_asc hS) (h2.perm.trans ((List.perm_append_comm (l₁ := S) (l₂ := [x])).trans (insH_perm x S).symm))
  have hil := insH_len x S
  simp only [Option.bind_some]
  rw [hd, gslice_ok (by omega) (by omega) (by omega)]
  simp only [Option.bind_some, Int.toNat_zero, List.drop_zero, Option.some.injEq]
  by_cases hc : k ≤ (insH x S).length
  · rw [show (min (k : Int) ((insH x S).length : Int)).toNat = k by omega]
  · rw [show (min (k : Int) ((insH x S).length : Int)).toNat = (insH x S).length by omega, List.take_length, List.take_of_length_le (by omega)]

def hitsOf (l : List Item) (kind : Int) (at_ : List Int) : List Hit := l.map fun x => (x.1, dist kind x.2.1 at_)
theorem hitsOf_len {l : List Item} {kind : Int} {at_ : List Int} : (hitsOf l kind at_).length = l.length := by simp [hitsOf]
theorem hitsOf_nodup {l : List Item} {kind : Int} {at_ : List Int} (hp : l.Pairwise (fun x y => x.1 < y.1)) : (hitsOf l kind at_).Nodup := by
  unfold hitsOf List.Nodup
  rw [List.pairwise_map]
  refine hp.imp fun h e => ?_
  have := congrArg Prod.fst e
  simp only at this; omega
theorem topH_nodup {k : Nat} {l : List Hit} (h : l.Nodup) : (topH k l).Nodup := by
  unfold topH
  exact (List.take_sublist _ _).nodup ((isort_spec l).2.nodup_iff.2 h)
theorem hitsOf_snoc {l : List Item} {kind : Int} {at_ : List Int} {i : Nat} (hi : i < l.length) : hitsOf (l.take (i + 1)) kind at_ = hitsOf (l.take i) kind at_ ++ [(l[i].1, dist kind l[i].2.1 at_)] := by
  unfold hitsOf
  rw [List.take_succ_eq_append_getElem hi, List.map_append]; rfl
def okQuery (l : List Item) (kind : Int) (at_ : List Int) : Bool := okStore l && isKind kind && isVec at_
def nearestL (l : List Item) (kind : Int) (at_ : List Int) (k : Int) : List Hit := if okQuery l kind at_ = true ∧ 1 ≤ k ∧ k ≤ 16 then topH k.toNat (hitsOf l kind at_) else []
theorem okQuery_iff {l : List Item} {kind : Int} {at_ : List Int} : okQuery l kind at_ = true ↔ okStore l = true ∧ isKind kind = true ∧ isVec at_ = true := by simp [okQuery, and_assoc]
theorem specAmong_ok {l : List Item} {kind : Int} {at_ : List Int} {k : Nat} (hvec : ∀ x ∈ l, isVec x.2.1 = true) (hkind : isKind kind = true) (hv : isVec at_ = true) (hlen : l.length ≤ 1000) (hk : k ≤ 1000) : M.spec_nearest l kind at_ (k : Int) = some (topH k (hitsOf l kind at_)) := by
  unfold M.spec_nearest
  refine fold_bind (xs := l) (fun (s : List Hit) i => (s, i)) (fun s x => (insH (x.1, dist kind x.2.1 at_) s).take k) (fun i s => s = topH k (hitsOf (l.take i) kind at_)) (fun s => s) (s0 := []) (by simp [hitsOf, topH, isort]) ?_ ?_ ?_
  · rintro s i hi rfl
    have e1 : decide ((i : Int) < (l.length : Int)) = true := decide_eq_true (by omega)
    have hx := hvec _ (List.getElem_mem hi)
    have hL := topH_len k (hitsOf (l.take i) kind at_)
    simp only [e1, cond_true, gidx_nat hi, Option.bind_some, specDist_vec hkind hx hv, w64_succ (i := i) (by omega)]
    have := addHit_ok (k := k) (topH_asc k (hitsOf (l.take i) kind at_)) (by rw [hL]; omega) hk (l[i].1, dist kind l[i].2.1 at_)
    simp only at this
    rw [this]
    refine ⟨rfl, ?_⟩
    rw [← topH_snoc, hitsOf_snoc hi]
  · intro s _; simp
  · intro hs
    rw [hs, List.take_length]
theorem specNearest1_ok {l : List Item} {kind : Int} {at_ : List Int} {k : Nat} (hq : okQuery l kind at_ = true) (hk : k ≤ 1000) : M.spec_nearest l kind at_ (k : Int) = some (topH k (hitsOf l kind at_)) := by
  obtain ⟨ho, hkind, hv⟩ := okQuery_iff.1 hq
  obtain ⟨hlen, hit, _⟩ := okStore_iff.1 ho
  exact specAmong_ok (fun x hx => isItem_vec (hit x hx)) hkind hv (by omega) hk
theorem inRange_ok (n a b : Int) : M.spec_inRange n a b = some (decide (a ≤ n ∧ n ≤ b)) := by
  unfold M.spec_inRange
  by_cases h : a ≤ n <;> simp [h]
theorem count_ok (k : Int) : M.impl_validCount k = some (decide (1 ≤ k ∧ k ≤ 16)) := by
  unfold M.impl_validCount
  by_cases h1 : 1 ≤ k <;> simp [h1]
theorem validSearch_ok {l : List Item} {kind : Int} {at_ : List Int} {k : Int} (h : SmallS l) (ha : at_.length < 2000000) : M.impl_validSearch l kind at_ k = some (decide (okQuery l kind at_ = true ∧ 1 ≤ k ∧ k ≤ 16)) := by
  unfold M.impl_validSearch okQuery
  simp only [h.impl, implKind_ok, impl_valid at_ ha, count_ok, Option.bind_some]
  cases okStore l <;> cases isKind kind <;> cases isVec at_ <;> simp
theorem by_loop {l : List Item} {D : Item → Int} {n : Nat} (hn : n ≤ 1000) {f : ((Int) × (List (Int × Int))) × (Int) → Option ((((Int) × (List (Int × Int))) × (Int)) ⊕ ((Int) × (List (Int × Int))))} (hlen : l.length ≤ 16)
    (hs : ∀ i (h : i < l.length) (kept : List Hit), f (((n : Int), kept), (i : Int)) = (M.impl_nearestHits_offer ((n : Int), kept) (l[i].1, D l[i])).bind fun r => some (.inl ((r.1, r.2), ((i + 1 : Nat) : Int))))
    (he : ∀ kept : List Hit, f (((n : Int), kept), (l.length : Int)) = some (.inr ((n : Int), kept))) :
    ∃ kept', loopM f (((n : Int), []), 0) = some ((n : Int), kept') ∧ kept'.Perm (topH n (l.map fun x => (x.1, D x))) := by
  have key : ∀ m i : Nat, i + m = l.length → ∀ kept : List Hit, HP kept.length kept → kept.Perm (topH n ((l.take i).map fun x => (x.1, D x))) →
      ∃ kept', loopM f (((n : Int), kept), (i : Int)) = some ((n : Int), kept') ∧ kept'.Perm (topH n (l.map fun x => (x.1, D x))) := by
    intro m
    induction m with
    | zero =>
      intro i hi kept hh hp
      have : i = l.length := by omega
      subst this
      rw [List.take_length] at hp
      rw [loopM_eq, he]
      exact ⟨kept, rfl, hp⟩
    | succ m ih =>
      intro i hi kept hh hp
      have hil : i < l.length := by omega
      have hL := topH_len n ((l.take i).map fun x => (x.1, D x))
      obtain ⟨kept', g1, g2, g3⟩ := offer_ok (k := n) hn (topH_asc n ((l.take i).map fun x => (x.1, D x))) (by omega) hh hp (l[i].1, D l[i])
      simp only at g1
      rw [loopM_eq, hs i hil, g1]
      simp only [Option.bind_some, selim]
      refine ih (i + 1) (by omega) kept' g2 ?_
      rw [← topH_snoc] at g3
      rw [List.take_succ_eq_append_getElem hil, List.map_append]; exact g3
  have := key l.length 0 (by omega) [] (fun i h1 h2 => by simp at h2) (by simp [topH, isort])
  rw [show ((0 : Nat) : Int) = 0 from rfl] at this
  exact this
theorem implAmong_ok {l : List Item} {kind : Int} {at_ : List Int} {n : Nat} (hvec : ∀ x ∈ l, isVec x.2.1 = true) (hv : isVec at_ = true) (hnd : (hitsOf l kind at_).Nodup) (hlen : l.length ≤ 16) (hn : n ≤ 1000) : M.impl_nearestAmong l kind at_ (n : Int) = some (topH n (hitsOf l kind at_)) := by
  unfold M.impl_nearestAmong M.impl_nearestBy__impl_nearestAmong_1
  obtain ⟨kept', g1, g2⟩ := by_loop (l := l) (D := fun x => dist kind x.2.1 at_) (n := n) hn (f := fun (s5 : ((Int) × (List (Int × Int))) × (Int)) => (bif decide (s5.2 < (l.length : Int)) then
  (gidx l s5.2).bind fun x10 =>
  (M.impl_nearestAmong_1__p3__p24 (x10.1, x10.2.1, x10.2.2) kind at_).bind fun r25 =>
  (M.impl_nearestHits_offer (s5.1.1, s5.1.2) (x10.1, r25)).bind fun r29 =>
  some (.inl ((r29.1, r29.2), w64 (s5.2 + 1)))
 else
  some (.inr (s5.1.1, s5.1.2)))) hlen (fun i hi kept => by
    have e1 : decide ((i : Int) < (l.length : Int)) = true := decide_eq_true (by omega)
    unfold M.impl_nearestAmong_1__p3__p24
    simp only [e1, cond_true, gidx_nat hi, Option.bind_some, implDist_vec (hvec _ (List.getElem_mem hi)) hv, w64_succ (i := i) (by omega)]) (fun kept => by simp)
  rw [g1]
  have hL := topH_len n (hitsOf l kind at_)
  have hl2 := hitsOf_len (l := l) (kind := kind) (at_ := at_)
  simp only [Option.bind_some, inOrder_ok (topH_asc n (hitsOf l kind at_)) g2 (topH_nodup hnd) (by omega)]
theorem implNearest_ok {l : List Item} {kind : Int} {at_ : List Int} {k : Int} (h : SmallS l) (ha : at_.length < 2000000) : M.impl_Nearest l kind at_ k = some (nearestL l kind at_ k) := by
  unfold M.impl_Nearest nearestL
  simp only [validSearch_ok h ha, Option.bind_some]
  by_cases hk : okQuery l kind at_ = true ∧ 1 ≤ k ∧ k ≤ 16
  · obtain ⟨n, rfl⟩ := Int.eq_ofNat_of_zero_le (show 0 ≤ k by omega)
    obtain ⟨ho, hkind, hv⟩ := okQuery_iff.1 hk.1
    obtain ⟨hlen, hit, hpw⟩ := okStore_iff.1 ho
    have hk' : (1 : Int) ≤ (n : Int) ∧ (n : Int) ≤ 16 := hk.2
    have hdec : decide (okQuery l kind at_ = true ∧ (1 : Int) ≤ (n : Int) ∧ (n : Int) ≤ 16) = true := decide_eq_true hk
    rw [hdec, if_pos (show okQuery l kind at_ = true ∧ (1 : Int) ≤ (n : Int) ∧ (n : Int) ≤ 16 from hk)]
    simp only [Bool.not_true, cond_false, implAmong_ok (n := n) (fun x hx => isItem_vec (hit x hx)) hv (hitsOf_nodup hpw) hlen (by omega), Option.bind_some, Int.toNat_natCast]
  · have hdec : decide (okQuery l kind at_ = true ∧ 1 ≤ k ∧ k ≤ 16) = false := decide_eq_false hk
    rw [hdec, if_neg hk]; rfl
end Go.Vs

namespace Go.Vs

theorem hitsOf_mem {l : List Item} {kind : Int} {at_ : List Int} {h : Hit} : h ∈ hitsOf l kind at_ ↔ ∃ x ∈ l, h = (x.1, dist kind x.2.1 at_) := by
  unfold hitsOf
  rw [List.mem_map]
  constructor
  · rintro ⟨x, hx, rfl⟩; exact ⟨x, hx, rfl⟩
  · rintro ⟨x, hx, rfl⟩; exact ⟨x, hx, rfl⟩
theorem topH_take {j k : Nat} (h : j ≤ k) (l : List Hit) : topH j l = (topH k l).take j := by unfold topH; rw [List.take_take, Nat.min_eq_left h]
end Go.Vs

namespace Go.Vs

end Go.Vs

namespace Go.Vs

end Go.Vs

namespace Go.Vs

end Go.Vs

namespace Go.Vs

end Go.Vs

namespace Go.Vs

end Go.Vs

namespace Go.Vs

structure OkL (l : List Item) : Prop where
  len : l.length ≤ 16
  vec : ∀ x ∈ l, isVec x.2.1 = true
  keys : (l.map (·.1)).Nodup
theorem OkL.inj {l : List Item} (h : OkL l) : ∀ x y, x ∈ l → y ∈ l → x.1 = y.1 → x = y := fun x y hx hy e => by
  obtain ⟨i, hi, rfl⟩ := List.mem_iff_getElem.1 hx
  obtain ⟨j, hj, rfl⟩ := List.mem_iff_getElem.1 hy
  have hpw := List.pairwise_iff_getElem.1 (List.pairwise_map.1 h.keys)
  rcases Nat.lt_trichotomy i j with h | h | h
  · exact absurd e (hpw i j hi hj h)
  · subst h; rfl
  · exact absurd e.symm (hpw j i hj hi h)
theorem OkL.sub {l m : List Item} (h : OkL l) (hs : List.Sublist m l) : OkL m :=
  ⟨Nat.le_trans hs.length_le h.len, fun x hx => h.vec x (hs.subset hx), List.Nodup.sublist (hs.map _) h.keys⟩
theorem OkL.perm {l m : List Item} (h : OkL l) (hp : m.Perm l) : OkL m :=
  ⟨by rw [hp.length_eq]; exact h.len, fun x hx => h.vec x (hp.mem_iff.1 hx), (hp.map (·.1)).nodup_iff.2 h.keys⟩

end Go.Vs

namespace Go.Vs

abbrev Nod := Int × Int × Int × Int
def nodesT : Tr Item → Nat → List Nod
  | .nil, _ => []
  | .node x n l r, a => (x.1, n, (bif l.isNil then -1 else ((a + 1 : Nat) : Int)), (bif r.isNil then -1 else ((a + 1 + (nodesT l (a + 1)).length : Nat) : Int))) :: (nodesT l (a + 1) ++ nodesT r (a + 1 + (nodesT l (a + 1)).length))
def Tr.size : Tr Item → Nat
  | .nil => 0
  | .node _ _ l r => l.size + r.size + 1
theorem nodesT_len : ∀ (t : Tr Item) (a : Nat), (nodesT t a).length = t.size
  | .nil, _ => rfl
  | .node x n l r, a => by simp only [nodesT, List.length_cons, List.length_append, nodesT_len l, nodesT_len r, Tr.size]
end Go.Vs

namespace Go.Vs

end Go.Vs

namespace Go.Vs

end Go.Vs

namespace Go.Vs

end Go.Vs

namespace Go.Vs

def itemsT : Tr Item → List Item
  | .nil => []
  | .node x _ l r => x :: (itemsT l ++ itemsT r)
def Sub (L : List Nod) (t : Tr Item) (a : Nat) : Prop := ∃ pre post, L = pre ++ nodesT t a ++ post ∧ pre.length = a
theorem Sub.left {L : List Nod} {x : Item} {q : Int} {l r : Tr Item} {a : Nat} (h : Sub L (.node x q l r) a) : Sub L l (a + 1) := by
  obtain ⟨pre, post, rfl, rfl⟩ := h
  exact ⟨pre ++ (nodesT (.node x q l r) pre.length).take 1, nodesT r (pre.length + 1 + (nodesT l (pre.length + 1)).length) ++ post, by simp [nodesT], by simp [nodesT]⟩
theorem Sub.right {L : List Nod} {x : Item} {q : Int} {l r : Tr Item} {a : Nat} (h : Sub L (.node x q l r) a) : Sub L r (a + 1 + l.size) := by
  obtain ⟨pre, post, rfl, rfl⟩ := h
  exact ⟨pre ++ (nodesT (.node x q l r) pre.length).take 1 ++ nodesT l (pre.length + 1), post, by simp [nodesT, nodesT_len], by simp [nodesT, nodesT_len]; omega⟩
theorem Sub.get {L : List Nod} {x : Item} {q : Int} {l r : Tr Item} {a : Nat} (h : Sub L (.node x q l r) a) : ∃ hl : a < L.length, L[a] = (x.1, q, (bif l.isNil then -1 else ((a + 1 : Nat) : Int)), (bif r.isNil then -1 else ((a + 1 + l.size : Nat) : Int))) := by
  obtain ⟨pre, post, rfl, rfl⟩ := h
  exact ⟨by simp [nodesT], by simp [nodesT, nodesT_len]⟩
theorem Sub.gidx {L : List Nod} {x : Item} {q : Int} {l r : Tr Item} {a : Nat} (h : Sub L (.node x q l r) a) : Go.Vs.gidx L (a : Int) = some (x.1, q, (bif l.isNil then -1 else ((a + 1 : Nat) : Int)), (bif r.isNil then -1 else ((a + 1 + l.size : Nat) : Int))) := by
  obtain ⟨hl, e⟩ := h.get
  rw [gidx_nat hl, e]
theorem sub_self (t : Tr Item) : Sub (nodesT t 0) t 0 := ⟨[], [], by simp, rfl⟩

end Go.Vs

namespace Go.Vs

def hitV (kd : Int) (v : List Int) (x : Item) : Hit := (x.1, dist kd x.2.1 v)
def hitsV (kd : Int) (v : List Int) (l : List Item) : List Hit := l.map (hitV kd v)
def reachH (k : Nat) (V : List Hit) : Int := if (topH k V).length < k then 1000000 else ((topH k V).getD (k - 1) (0, 0)).2
/-! ## Lists with the same nearest ones -/
def SameT (k : Nat) (U V : List Hit) : Prop := topH k U = topH k V
theorem SameT.refl (k : Nat) (U : List Hit) : SameT k U U := rfl
theorem SameT.trans {k : Nat} {U V W : List Hit} (h : SameT k U V) (g : SameT k V W) : SameT k U W := Eq.trans h g
theorem SameT.symm {k : Nat} {U V : List Hit} (h : SameT k U V) : SameT k V U := Eq.symm h
theorem SameT.perm {k : Nat} {U V : List Hit} (h : U.Perm V) : SameT k U V := by
  show topH k U = topH k V
  unfold topH
  rw [isort_uniq (isort_spec V).1 ((isort_spec V).2.trans h.symm)]
theorem SameT.reach {k : Nat} {U V : List Hit} (h : SameT k U V) : reachH k U = reachH k V := by
  unfold reachH
  rw [h]
/-! ## Trees find the nearest -/
/-! ## At how many nodes they look -/
noncomputable def vis (kd : Int) (v : List Int) (k : Nat) : Tr Item → List Hit → Nat
  | .nil, _ => 0
  | .node x q l r, P =>
    if dist kd x.2.1 v ≤ q then
      vis kd v k l (P ++ [hitV kd v x]) + 1 + (if q - dist kd x.2.1 v ≤ reachH k (P ++ [hitV kd v x] ++ hitsV kd v (itemsT l)) then vis kd v k r (P ++ [hitV kd v x] ++ hitsV kd v (itemsT l)) else 0)
    else
      vis kd v k r (P ++ [hitV kd v x]) + 1 + (if dist kd x.2.1 v - q ≤ reachH k (P ++ [hitV kd v x] ++ hitsV kd v (itemsT r)) then vis kd v k l (P ++ [hitV kd v x] ++ hitsV kd v (itemsT r)) else 0)
end Go.Vs

namespace Go.Vs

/-! ## The program's search -/
/-! ## What is answered -/
end Go.Vs

namespace Go.Vs

/-! ## Exact laws -/
end Go.Vs

namespace Go.Vs

end Go.Vs

namespace Go.Vs

/-! ## The first of the least -/
def SmallC (cs : List (List Int)) : Prop := cs.length < 2000000 ∧ ∀ c ∈ cs, c.length < 2000000
/-! ## Drawn centres -/
/-! ## Laws -/
theorem SmallC.sub {cs ds : List (List Int)} (h : SmallC cs) (hs : ds.Sublist cs) : SmallC ds := ⟨by have := hs.length_le; have := h.1; omega, fun c hc => h.2 c (hs.subset hc)⟩
/-! ## Items and their centres -/
/-! ## Spreads -/
end Go.Vs

namespace Go.Vs

section
variable {cmp : Int → Int → Option Int} {D : Nat → Int} {n : Nat}
end

end Go.Vs

namespace Go.Vs

end Go.Vs

namespace Go.Vs

/-! ## Settling -/
end Go.Vs

namespace Go.Vs

/-! ## What searches cost -/
/-! ## Exact laws -/
end Go.Vs

namespace Go.Vs

/-! ## All items are in a list -/
end Go.Vs

namespace Go.Vs

end Go.Vs

namespace Go.Vs

end Go.Vs

namespace Go.Vs

def hd2 (u v : List Int) : Int := gap (u.getD 0 0) (v.getD 0 0) * gap (u.getD 0 0) (v.getD 0 0) + gap (u.getD 1 0) (v.getD 1 0) * gap (u.getD 1 0) (v.getD 1 0)
def hD (l : List (List Int)) (v : List Int) (j : Nat) : Int := hd2 (l.getD j []) v
end Go.Vs

namespace Go.Vs

end Go.Vs

namespace Go.Vs

end Go.Vs

namespace Go.Vs

end Go.Vs

namespace Go.Vs

end Go.Vs

namespace Go.Vs

/-! ## Planes -/
end Go.Vs

namespace Go.Vs

/-! ## Tables -/
def tab (l : List (List Int)) (v : List Int) : List Int := [hD l v 0, hD l v 1, hD l v 2, hD l v 3]
/-! ## Vectors of codes -/
/-! ## Distances of codes -/
end Go.Vs

namespace Go.Vs

end Go.Vs

namespace Go.Vs

/-! ## Bits -/
end Go.Vs

namespace Go.Vs

/-! ## Opposite vectors -/
/-! ## A plane looks at itself -/
/-! ## Twice a vector -/
end Go.Vs

namespace Go.Vs

/-! ## Buckets -/
end Go.Vs

namespace Go.Vs

theorem topH_perm {k : Nat} {l m : List Hit} (h : l.Perm m) : topH k l = topH k m := by
  unfold topH
  rw [isort_uniq (isort_spec m).1 ((isort_spec m).2.trans h.symm)]
/-! ## Ranked again -/
/-! ## The nearest of a bucket -/
end Go.Vs

namespace Go.Vs

def others (l : List Item) (x : Item) : List Item := l.filter fun y => decide (y.1 ≠ x.1)
def nbH (l : List Item) (kind : Int) (many : Nat) (x : Item) : List Hit := topH many (hitsOf (others l x) kind x.2.1)
def nbs (l : List Item) (kind : Int) (many : Nat) (x : Item) : List Int := (nbH l kind many x).map (·.1)
theorem mem_others {l : List Item} {x y : Item} : y ∈ others l x ↔ y ∈ l ∧ y.1 ≠ x.1 := by unfold others; simp
theorem mem_nbs {l : List Item} {kind : Int} {many : Nat} {x : Item} {c : Int} (h : c ∈ nbs l kind many x) : ∃ y ∈ l, y.1 = c ∧ y.1 ≠ x.1 := by
  unfold nbs at h
  obtain ⟨t, ht, rfl⟩ := List.mem_map.1 h
  obtain ⟨y, hy, rfl⟩ := hitsOf_mem.1 (topH_sub _ _ t ht)
  obtain ⟨h1, h2⟩ := mem_others.1 hy
  exact ⟨y, h1, rfl, h2⟩
theorem nbs_take {l : List Item} {kind : Int} {j k : Nat} {x : Item} (h : j ≤ k) : nbs l kind j x = (nbs l kind k x).take j := by
  unfold nbs nbH; rw [topH_take h, List.map_take]
theorem nbs_more {l : List Item} {kind : Int} {j k : Nat} {x : Item} (h : j ≤ k) {c : Int} (hc : c ∈ nbs l kind j x) : c ∈ nbs l kind k x := by
  rw [nbs_take h] at hc; exact List.mem_of_mem_take hc
/-! ## Walks -/
end Go.Vs

namespace Go.Vs

/-! ## Walks -/
end Go.Vs

namespace Go.Vs

def Edge (l : List Item) (kind : Int) (many : Nat) (c d : Int) : Prop := ∃ x ∈ l, x.1 = c ∧ d ∈ nbs l kind many x
inductive Reach (l : List Item) (kind : Int) (many : Nat) (key : Int) : Int → Prop
  | base : Reach l kind many key key
  | step {c d : Int} : Reach l kind many key c → Edge l kind many c d → Reach l kind many key d
theorem Edge.more {l : List Item} {kind : Int} {j k : Nat} {c d : Int} (h : j ≤ k) (e : Edge l kind j c d) : Edge l kind k c d := by
  obtain ⟨x, hx, h1, h2⟩ := e; exact ⟨x, hx, h1, nbs_more h h2⟩
theorem Reach.more {l : List Item} {kind : Int} {j k : Nat} {key c : Int} (h : j ≤ k) (r : Reach l kind j key c) : Reach l kind k key c := by
  induction r with
  | base => exact .base
  | step _ e ih => exact .step ih (e.more h)
theorem Edge.mem {l : List Item} {kind : Int} {many : Nat} {c d : Int} (e : Edge l kind many c d) : ∃ y ∈ l, y.1 = d := by
  obtain ⟨x, _, _, h2⟩ := e
  obtain ⟨y, hy, h3, _⟩ := mem_nbs h2; exact ⟨y, hy, h3⟩
theorem Reach.mem {l : List Item} {kind : Int} {many : Nat} {key c : Int} (hk : ∃ y ∈ l, y.1 = key) (r : Reach l kind many key c) : ∃ y ∈ l, y.1 = c := by
  cases r with
  | base => exact hk
  | step _ e => exact e.mem
end Go.Vs

namespace Go.Vs

/-! ## Filters -/
/-! ## What is drawn -/
end Go.Vs

namespace Go.Vs

end Go.Vs

namespace Go.Vs

end Go.Vs

namespace Go.Vs

abbrev ln (s : ByteArray) : List UInt8 := s.data.toList
theorem ln_len (s : ByteArray) : (ln s).length = s.size := rfl
theorem ln_inj {a b : ByteArray} (h : ln a = ln b) : a = b := by
  cases a; cases b
  unfold ln at h
  congr
  exact Array.toList_inj.1 h
theorem toList_loop (s : ByteArray) : ∀ (m i : Nat) (r : List UInt8), i + m = s.size → ByteArray.toList.loop s i r = r.reverse ++ (ln s).drop i := by
  intro m
  induction m with
  | zero =>
    intro i r h
    rw [ByteArray.toList.loop, if_neg (by omega), List.drop_eq_nil_of_le (by rw [ln_len]; omega)]
    simp
  | succ m ih =>
    intro i r h
    have hi : i < (ln s).length := by rw [ln_len]; omega
    rw [ByteArray.toList.loop, if_pos (by omega), ih (i + 1) _ (by omega), List.drop_eq_getElem_cons hi]
    have e : s.get! i = (ln s)[i] := by
      have hd : i < s.data.size := hi
      unfold ByteArray.get!
      show s.data[i]! = s.data.toList[i]
      rw [getElem!_pos s.data i hd]; simp
    rw [e]; simp
theorem toList_ln (s : ByteArray) : s.toList = ln s := by
  unfold ByteArray.toList
  rw [toList_loop s s.size 0 [] (by omega)]; simp
theorem ln_mk (l : List UInt8) : ln (ByteArray.mk l.toArray) = l := rfl
theorem gsix_at {s : ByteArray} {i : Nat} (h : i < (ln s).length) : gsix s (i : Int) = some (ln s)[i] := by
  unfold gsix
  rw [if_pos (by omega), Int.toNat_natCast]
  have h' : i < s.size := h
  rw [getElem?_pos s i h']
  rfl
theorem gsub_ok {s : ByteArray} {l h : Nat} (h1 : l ≤ h) (h2 : h ≤ (ln s).length) : ∃ t, gsub s (l : Int) (h : Int) = some t ∧ ln t = ((ln s).take h).drop l := by
  have h3 : h ≤ s.size := h2
  refine ⟨s.extract l h, ?_, ?_⟩
  · unfold gsub
    rw [if_pos ⟨by omega, by omega, by omega⟩, Int.toNat_natCast, Int.toNat_natCast]
  · unfold ln
    rw [ByteArray.data_extract]
    simp [Array.toList_extract, List.extract_eq_take_drop, List.drop_take]
theorem gcat_ok {a b : ByteArray} (h : (ln a).length + (ln b).length ≤ 1000000000000) : ∃ t, gcat a b = some t ∧ ln t = ln a ++ ln b := by
  have h' : a.size + b.size ≤ 1000000000000 := h
  refine ⟨a ++ b, ?_, ?_⟩
  · unfold gcat
    rw [if_pos (by omega)]
  · unfold ln
    rw [ByteArray.data_append]; simp
theorem bstr_ln : ∀ (xs : List UInt8) (a : ByteArray), ln (xs.foldl ByteArray.push a) = ln a ++ xs
  | [], a => by simp
  | x :: xs, a => by
    rw [List.foldl_cons, bstr_ln xs]
    unfold ln
    rw [ByteArray.data_push]; simp
theorem ln_bstr (xs : List UInt8) : ln (bstr xs) = xs := by
  unfold bstr
  rw [bstr_ln]; rfl
def bsq (l : List UInt8) : ByteArray := ByteArray.mk l.toArray
theorem ln_bsq (l : List UInt8) : ln (bsq l) = l := rfl
theorem bsq_ln (s : ByteArray) : bsq (ln s) = s := ln_inj (ln_bsq _)
theorem gsub_at {s : ByteArray} {l h : Nat} (h1 : l ≤ h) (h2 : h ≤ (ln s).length) : gsub s (l : Int) (h : Int) = some (bsq (((ln s).take h).drop l)) := by
  obtain ⟨t, e, q⟩ := gsub_ok h1 h2
  rw [e, ← q, bsq_ln]
theorem gcat_at {a b : ByteArray} (h : (ln a).length + (ln b).length ≤ 1000000000000) : gcat a b = some (bsq (ln a ++ ln b)) := by
  obtain ⟨t, e, q⟩ := gcat_ok h
  rw [e, ← q, bsq_ln]
theorem bstr_bsq (xs : List UInt8) : bstr xs = bsq xs := by rw [← bsq_ln (bstr xs), ln_bstr]
/-! ## Cut at a byte -/
def splitL (c : UInt8) : List UInt8 → List (List UInt8)
  | [] => [[]]
  | b :: r => if b = c then [] :: splitL c r else match splitL c r with
    | [] => [[b]]
    | h :: t => (b :: h) :: t
theorem splitL_ne (c : UInt8) : ∀ l, splitL c l ≠ []
  | [] => by simp [splitL]
  | b :: r => by
    unfold splitL
    split
    · simp
    · split <;> simp
theorem splitL_none {c : UInt8} : ∀ {p : List UInt8}, c ∉ p → splitL c p = [p]
  | [], _ => rfl
  | b :: p, h => by
    simp only [List.mem_cons, not_or] at h
    unfold splitL
    rw [if_neg (fun e => h.1 e.symm), splitL_none h.2]
theorem splitL_cut {c : UInt8} {q : List UInt8} : ∀ {p : List UInt8}, c ∉ p → splitL c (p ++ c :: q) = p :: splitL c q
  | [], _ => by rw [List.nil_append, splitL, if_pos rfl]
  | b :: p, h => by
    simp only [List.mem_cons, not_or] at h
    rw [List.cons_append, splitL, if_neg (fun e => h.1 e.symm), splitL_cut h.2]
theorem splitL_len (c : UInt8) : ∀ l, (splitL c l).length ≤ l.length + 1
  | [] => by simp [splitL]
  | b :: r => by
    have ih := splitL_len c r
    unfold splitL
    split
    · simp only [List.length_cons]; omega
    · split
      · simp
      · rename_i h; rw [h] at ih; simp only [List.length_cons] at ih ⊢; omega
theorem splitL_part {c : UInt8} : ∀ {l : List UInt8} {p : List UInt8}, p ∈ splitL c l → p.length ≤ l.length
  | [], p, h => by simp [splitL] at h; simp [h]
  | b :: r, p, h => by
    unfold splitL at h
    split at h
    · rcases List.mem_cons.1 h with rfl | h
      · simp
      · have := splitL_part h; simp only [List.length_cons]; omega
    · split at h
      · rename_i q; exact absurd q (splitL_ne c r)
      · rename_i x t q
        rcases List.mem_cons.1 h with rfl | h
        · have := splitL_part (c := c) (l := r) (p := x) (by rw [q]; simp); simp only [List.length_cons]; omega
        · have := splitL_part (c := c) (l := r) (p := p) (by rw [q]; simp [h]); simp only [List.length_cons]; omega
theorem specSplit_ok {s : ByteArray} {c : UInt8} (hs : (ln s).length ≤ 1048576) : M.spec_splitAt s c = some ((splitL c (ln s)).map bsq) := by
  unfold M.spec_splitAt
  have hsz : (s.size : Int) = ((ln s).length : Int) := rfl
  generalize hl : ln s = l at *
  have key : ∀ (m i : Nat) (out : List (List UInt8)) (fr : Nat), i + m = l.length → fr ≤ i → c ∉ (l.take i).drop fr → out ++ splitL c (l.drop fr) = splitL c l → out.length ≤ i →
      Option.bind (loopM (fun (s4 : (List ByteArray) × (Int) × (Int)) => (bif decide (s4.2.2 < (s.size : Int)) then
  Option.bind ((gsix s s4.2.2).bind fun x10 =>
  (bif (x10.toNat : Int) == (c.toNat : Int) then
  (gsub s s4.2.1 s4.2.2).bind fun s13 =>
  (gapp s4.1 ([s13] : List ByteArray)).bind fun xs17 =>
  some (xs17, w64 (s4.2.2 + 1))
 else
  some (s4.1, s4.2.1))) fun o9 =>
  some (.inl (o9.1, o9.2, w64 (s4.2.2 + 1)))
 else
  some (.inr (s4.1, s4.2.1)))) (out.map bsq, (fr : Int), (i : Int))) (fun o3 =>
  (gsub s o3.2 (s.size : Int)).bind fun s28 =>
  (gapp o3.1 ([s28] : List ByteArray)).bind fun xs32 =>
  some xs32) = some ((splitL c l).map bsq) := by
    intro m
    induction m with
    | zero =>
      intro i out fr him hfi hc ho hol
      obtain rfl : i = l.length := by omega
      rw [loopM_eq]
      have d1 : decide ((l.length : Int) < (l.length : Int)) = false := decide_eq_false (by omega)
      rw [List.take_length] at hc
      simp only [hsz, d1, cond_false, selim, Option.bind_some]
      rw [gsub_at (s := s) (l := fr) (h := l.length) hfi (by rw [hl]; omega), Option.bind_some, gapp_ok (by simp; omega), Option.bind_some, hl, List.take_length, ← ho, splitL_none hc]
      simp
    | succ m ih =>
      intro i out fr him hfi hc ho hol
      have hi : i < l.length := by omega
      have hgi : gsix s (i : Int) = some l[i] := by
        have := gsix_at (s := s) (i := i) (by rw [hl]; exact hi)
        rw [this]; simp only [hl]
      have d1 : decide ((i : Int) < (l.length : Int)) = true := decide_eq_true (by omega)
      have hw := w64_succ (i := i) (show i < 4000000000000000000 by omega)
      have ht : (l.take (i + 1)).drop fr = (l.take i).drop fr ++ [l[i]] := by
        rw [List.take_succ_eq_append_getElem hi, List.drop_append_of_le_length (by simp; omega)]
      rw [loopM_eq]
      simp only [hsz, d1, cond_true, hgi, Option.bind_some, hw]
      by_cases he : l[i] = c
      · have eb : (((l[i]).toNat : Int) == (c.toNat : Int)) = true := by rw [he]; simp
        have hd : l.drop fr = (l.take i).drop fr ++ c :: l.drop (i + 1) := by
          rw [← he, ← List.drop_eq_getElem_cons hi]
          conv => lhs; rw [← List.take_append_drop i l]
          rw [List.drop_append_of_le_length (by simp; omega)]
        simp only [eb, cond_true]
        rw [gsub_at (s := s) (l := fr) (h := i) hfi (by rw [hl]; omega), Option.bind_some, gapp_ok (by simp; omega)]
        simp only [Option.bind_some, selim, hl]
        have := ih (i + 1) (out ++ [(l.take i).drop fr]) (i + 1) (by omega) (by omega) (by simp) (by rw [List.append_assoc, List.singleton_append, ← splitL_cut hc, ← hd]; exact ho) (by simp; omega)
        simpa [hsz] using this
      · have eb : (((l[i]).toNat : Int) == (c.toNat : Int)) = false := by
          apply beq_false_of_ne
          intro h
          exact he (UInt8.toNat_inj.1 (by omega))
        simp only [eb, cond_false, Option.bind_some, selim]
        have := ih (i + 1) out fr (by omega) (by omega) (by rw [ht]; simp only [List.mem_append, List.mem_singleton, not_or]; exact ⟨hc, fun h => he h.symm⟩) ho (by omega)
        simpa [hsz] using this
  have := key l.length 0 [] 0 (by omega) (by omega) (by simp) (by simp) (by simp)
  simpa using this
end Go.Vs

namespace Go.Vs

end Go.Vs

namespace Go.Vs

end Go.Vs

namespace Go.Vs

/-! ## Walks -/
end Go.Vs

namespace Go.Vs

end Go.Vs

namespace Go.Vs

theorem nodup_of {l : List Hit} (h : (l.map (·.1)).Nodup) : l.Nodup := List.Pairwise.of_map (·.1) (fun a b h e => h (congrArg _ e)) h
end Go.Vs

namespace Go.Vs

def Bst (S : List Hit) (x : Hit) : Prop := x ∈ S ∧ ∀ y ∈ S, y.1 = x.1 → x.2 ≤ y.2
structure BL (S L : List Hit) : Prop where
  keys : (L.map (·.1)).Nodup
  mem : ∀ x, x ∈ L ↔ Bst S x
theorem BL.nodup {S L : List Hit} (h : BL S L) : L.Nodup := nodup_of h.keys
theorem BL.same {S S' L L' : List Hit} {k : Nat} (h : BL S L) (h' : BL S' L') (hs : ∀ x, x ∈ S ↔ x ∈ S') : topH k L = topH k L' := by
  refine topH_perm ((List.perm_ext_iff_of_nodup h.nodup h'.nodup).2 fun x => ?_)
  rw [h.mem, h'.mem]
  unfold Bst
  constructor
  · rintro ⟨h1, h2⟩; exact ⟨(hs x).1 h1, fun y hy => h2 y ((hs y).2 hy)⟩
  · rintro ⟨h1, h2⟩; exact ⟨(hs x).2 h1, fun y hy => h2 y ((hs y).1 hy)⟩
end Go.Vs

namespace Go.Vs

structure Frs (P s : List Hit) : Prop where
  sub : s.Sublist P
  keys : (s.map (·.1)).Nodup
  all : ∀ y ∈ P, ∃ z ∈ s, z.1 = y.1 ∧ z.2 ≤ y.2
theorem Frs.nil : Frs [] [] := ⟨List.Sublist.refl _, by simp, by simp⟩
end Go.Vs

namespace Go.Vs

end Go.Vs

namespace Go.Vs

end Go.Vs

namespace Go.Vs

end Go.Vs

namespace Go.Vs

end Go.Vs

namespace Go.Vs

theorem gb8_id {n : Int} (h0 : 0 ≤ n) (h1 : n < 256) : ((gb8 n).toNat : Int) = n := by
  rw [gb8_wk]
  have : wk .u8 n = n % 256 := by unfold wk IntKind.wrap; simp [IntKind.signed, IntKind.bits]
  rw [this]; omega
end Go.Vs

namespace Go.Vs

def decN (n : Nat) : List UInt8 := if h : n < 10 then [UInt8.ofNat (48 + n)] else decN (n / 10) ++ [UInt8.ofNat (48 + n % 10)]
termination_by n
decreasing_by omega
def decI (n : Int) : List UInt8 := if n < 0 then 45 :: decN n.natAbs else decN n.toNat
theorem decN_small {n : Nat} (h : n < 10) : decN n = [UInt8.ofNat (48 + n)] := by rw [decN, dif_pos h]
theorem decN_big {n : Nat} (h : ¬ n < 10) : decN n = decN (n / 10) ++ [UInt8.ofNat (48 + n % 10)] := by rw [decN, dif_neg h]
def pw : Nat → Nat
  | 0 => 10
  | f + 1 => 10 * pw f
theorem pw_le : ∀ f : Fin 18, pw f.1 ≤ 1000000000000000000 := by decide
theorem pw_le' {f : Nat} (h : f ≤ 17) : pw f ≤ 1000000000000000000 := pw_le ⟨f, by omega⟩
theorem pw_div {f n : Nat} (h : n < pw (f + 1)) : n / 10 < pw f := by
  have : pw (f + 1) = 10 * pw f := rfl
  omega
theorem decN_len : ∀ (f n : Nat), n < pw f → 1 ≤ (decN n).length ∧ (decN n).length ≤ f + 1
  | 0, n, h => by rw [decN_small h]; simp
  | f + 1, n, h => by
    by_cases hs : n < 10
    · rw [decN_small hs]; simp
    · rw [decN_big hs]
      have := decN_len f (n / 10) (pw_div h)
      simp only [List.length_append, List.length_singleton]; omega
theorem digit_ok {n : Nat} (h : n < 10) : gb8 (w64 (48 + (n : Int))) = UInt8.ofNat (48 + n) := by
  have hw : w64 (48 + (n : Int)) = ((48 + n : Nat) : Int) := by rw [w64_id (by omega) (by omega)]; omega
  rw [hw]
  apply UInt8.toNat_inj.1
  have h1 := gb8_id (n := ((48 + n : Nat) : Int)) (by omega) (by omega)
  have h2 : (UInt8.ofNat (48 + n)).toNat = 48 + n := by
    rw [UInt8.toNat_ofNat']; omega
  rw [h2]; omega
theorem specDecN_ok : ∀ (f n : Nat), f ≤ 17 → n < pw f → ∀ k, M.spec_decimal (f + 1 + k) (n : Int) = some (bsq (decN n)) := by
  intro f
  induction f with
  | zero =>
    intro n _ h k
    have hs : n < 10 := h
    rw [show 0 + 1 + k = k + 1 by omega]
    unfold M.spec_decimal M.spec_decimal_F
    have d1 : decide ((n : Int) < 0) = false := decide_eq_false (by omega)
    have d2 : decide ((n : Int) < 10) = true := decide_eq_true (by omega)
    simp only [d1, d2, cond_false, cond_true, Option.bind_some, digit_ok hs, bstr_bsq, decN_small hs]
  | succ f ih =>
    intro n hf h k
    rw [show f + 1 + 1 + k = (f + 1 + k) + 1 by omega]
    unfold M.spec_decimal M.spec_decimal_F
    have d1 : decide ((n : Int) < 0) = false := decide_eq_false (by omega)
    by_cases hs : n < 10
    · have d2 : decide ((n : Int) < 10) = true := decide_eq_true (by omega)
      simp only [d1, d2, cond_false, cond_true, Option.bind_some, digit_ok hs, bstr_bsq, decN_small hs]
    · have d2 : decide ((n : Int) < 10) = false := decide_eq_false (by omega)
      have hq : n / 10 < pw f := pw_div h
      have hb := pw_le' hf
      have e1 : w64 ((n : Int).tdiv 10) = ((n / 10 : Nat) : Int) := by
        show w64 ((n / 10 : Nat) : Int) = _
        rw [w64_id (by omega) (by omega)]
      have e2 : (n : Int).tmod 10 = ((n % 10 : Nat) : Int) := rfl
      have hl := decN_len f (n / 10) hq
      have e3 : gb8 (w64 (48 + (n : Int).tmod 10)) = UInt8.ofNat (48 + n % 10) := by rw [e2]; exact digit_ok (by omega)
      have e4 := ih (n / 10) (by omega) hq k
      rw [d1, cond_false, Option.bind_some, cond_false, cond_false, d2, cond_false, e1, e3, e4, Option.bind_some, bstr_bsq]
      rw [gcat_at (by simp only [ln_bsq, List.length_singleton]; omega)]
      simp only [Option.bind_some, ln_bsq, decN_big hs]
theorem specDecimal_ok {n : Int} (h0 : -100000000000000000 < n) (h1 : n < 100000000000000000) : M.spec_decimal 100 n = some (bsq (decI n)) := by
  unfold decI
  by_cases hn : n < 0
  · rw [if_pos hn]
    obtain ⟨m, hm⟩ : ∃ m : Nat, n = -(m : Int) := ⟨n.natAbs, by omega⟩
    subst hm
    rw [show (100 : Nat) = 99 + 1 from rfl]
    unfold M.spec_decimal M.spec_decimal_F
    have d1 : decide (-(m : Int) < 0) = true := decide_eq_true hn
    have e1 : w64 (0 - -(m : Int)) = (m : Int) := by rw [w64_id (by omega) (by omega)]; omega
    have e2 : ((-(m : Int)) == (m : Int)) = false := beq_false_of_ne (by omega)
    have hpw : pw 16 = 100000000000000000 := by decide
    have hd := specDecN_ok 16 m (by omega) (by omega) 82
    have hl := decN_len 16 m (by omega)
    simp only [d1, cond_true, e1, e2, Option.bind_some, cond_false]
    rw [show (99 : Nat) = 16 + 1 + 82 from rfl, hd, Option.bind_some, show ByteArray.mk #[45] = bsq [45] from rfl, gcat_at (by simp only [ln_bsq, List.length_singleton]; omega)]
    simp [ln_bsq]
  · rw [if_neg hn]
    obtain ⟨m, hm⟩ : ∃ m : Nat, n = (m : Int) := ⟨n.toNat, by omega⟩
    subst hm
    have hpw : pw 16 = 100000000000000000 := by decide
    have := specDecN_ok 16 m (by omega) (by omega) 83
    rw [show (100 : Nat) = 16 + 1 + 83 from rfl, this]; simp
end Go.Vs

namespace Go.Vs

def scan : List UInt8 → Bool → Int → Option Int
  | [], _, n => some n
  | b :: r, first, n => if 48 ≤ b.toNat ∧ b.toNat ≤ 57 then scan r false (10 * n + ((b.toNat : Int) - 48)) else if first = true ∧ b = 45 then scan r false n else none
theorem scan_bound : ∀ (l : List UInt8) (f : Bool) (n m : Int), 0 ≤ n → scan l f n = some m → 0 ≤ m ∧ m + 1 ≤ (n + 1) * 10 ^ l.length
  | [], _, n, m, h0, h => by simp only [scan, Option.some.injEq] at h; subst h; simp; omega
  | b :: r, f, n, m, h0, h => by
    have hp : (0 : Int) ≤ 10 ^ r.length := Int.le_of_lt (Int.pow_pos (by omega))
    have e : (10 : Int) ^ (b :: r).length = 10 * 10 ^ r.length := by rw [List.length_cons, Int.pow_succ, Int.mul_comm]
    rw [scan] at h
    split at h
    · rename_i hd
      obtain ⟨h1, h2⟩ := scan_bound r false _ m (by omega) h
      refine ⟨h1, Int.le_trans h2 ?_⟩
      rw [e, ← Int.mul_assoc]
      exact Int.mul_le_mul_of_nonneg_right (by omega) hp
    · split at h
      · obtain ⟨h1, h2⟩ := scan_bound r false _ m h0 h
        refine ⟨h1, Int.le_trans h2 ?_⟩
        rw [e, ← Int.mul_assoc]
        exact Int.mul_le_mul_of_nonneg_right (by omega) hp
      · cases h
theorem scan_small {l : List UInt8} {m : Int} (hl : l.length ≤ 4) (h : scan l true 0 = some m) : 0 ≤ m ∧ m ≤ 10000 := by
  obtain ⟨h1, h2⟩ := scan_bound l true 0 m (by omega) h
  refine ⟨h1, ?_⟩
  have : (0 + 1 : Int) * 10 ^ l.length ≤ 10000 := by
    match l, hl with
    | [], _ => decide
    | [_], _ => exact (by decide : (0 + 1 : Int) * 10 ^ 1 ≤ 10000)
    | [_, _], _ => exact (by decide : (0 + 1 : Int) * 10 ^ 2 ≤ 10000)
    | [_, _, _], _ => exact (by decide : (0 + 1 : Int) * 10 ^ 3 ≤ 10000)
    | [_, _, _, _], _ => exact (by decide : (0 + 1 : Int) * 10 ^ 4 ≤ 10000)
  omega
def signed (l : List UInt8) (n : Int) : Int := if l.head? = some 45 then -n else n
theorem digit_step {x : UInt8} {n : Int} (h0 : 0 ≤ n) (h1 : n ≤ 1000000) : w64 (w64 (w64 (10 * n) + w64 (x.toNat : Int)) - 48) = 10 * n + ((x.toNat : Int) - 48) := by
  have := x.toNat_lt
  have e1 : w64 (x.toNat : Int) = (x.toNat : Int) := w64_id (by omega) (by omega)
  have e2 : w64 (10 * n) = 10 * n := w64_id (by omega) (by omega)
  rw [e1, e2, w64_id (n := 10 * n + (x.toNat : Int)) (by omega) (by omega), w64_id (by omega) (by omega)]
  omega
theorem parse_loop {s : ByteArray} {l : List UInt8} (hl : ln s = l) (h4 : l.length ≤ 4) : ∀ (m i : Nat) (n : Int), i + m = l.length → 0 ≤ n → n + 1 ≤ 10 ^ i →
    loopM (fun (s2 : (Int) × (Int)) => Option.bind ((bif decide (s2.2 < (s.size : Int)) then
  some (decide ((s.size : Int) ≤ 4))
 else
  some false)) fun o4 =>
  (bif o4 then
  Option.bind ((gsix s s2.2).bind fun x9 =>
  (M.spec_inRange (w64 (x9.toNat : Int)) 48 57).bind fun r11 =>
  (bif r11 then
  (gsix s s2.2).bind fun x16 =>
  some (.inl (w64 ((w64 ((w64 (10 * s2.1)) + (w64 (x16.toNat : Int)))) - 48)))
 else
  Option.bind ((bif decide (0 < s2.2) then
  some true
 else
  (gsix s s2.2).bind fun x20 =>
  some ((x20.toNat : Int) != ((45 : UInt8).toNat : Int)))) fun o18 =>
  (bif o18 then
  some (.inr ((0, false) : Int × Bool))
 else
  some (.inl s2.1)))) (selim (fun t24 => some (.inl (t24, w64 (s2.2 + 1))))
   (fun t26 => some (.inr (.inr (t26.1, t26.2)))))
 else
  some (.inr (.inl s2.1)))) (n, (i : Int)) = some (match scan (l.drop i) (decide (i = 0)) n with | some v => (Sum.inl v : Int ⊕ (Int × Bool)) | none => Sum.inr ((0 : Int), false)) := by
  have hsz : (s.size : Int) = (l.length : Int) := by rw [← hl]; rfl
  intro m
  induction m with
  | zero =>
    intro i n him _ _
    obtain rfl : i = l.length := by omega
    rw [loopM_eq]
    have d1 : decide ((l.length : Int) < (l.length : Int)) = false := decide_eq_false (by omega)
    simp only [hsz, d1, cond_false, Option.bind_some, selim]
    rw [List.drop_eq_nil_of_le (Nat.le_refl _)]
    rfl
  | succ m ih =>
    intro i n him h0 hn
    have hi : i < l.length := by omega
    have hn' : n ≤ 10000 := by
      have hp : (10 : Int) ^ i ≤ 10000 := by
        match i, (show i ≤ 3 by omega) with
        | 0, _ => decide
        | 1, _ => decide
        | 2, _ => decide
        | 3, _ => decide
      omega
    have hgi : gsix s (i : Int) = some l[i] := by
      have := gsix_at (s := s) (i := i) (by rw [hl]; exact hi)
      rw [this]; simp only [hl]
    have d1 : decide ((i : Int) < (l.length : Int)) = true := decide_eq_true (by omega)
    have d2 : decide ((l.length : Int) ≤ 4) = true := decide_eq_true (by omega)
    have hx := (l[i]).toNat_lt
    have hw : w64 ((l[i]).toNat : Int) = ((l[i]).toNat : Int) := w64_id (by omega) (by omega)
    have hw1 := w64_succ (i := i) (show i < 4000000000000000000 by omega)
    rw [loopM_eq, List.drop_eq_getElem_cons hi, scan]
    have hp10 : (10 : Int) ^ (i + 1) = 10 * 10 ^ i := by rw [Int.pow_succ, Int.mul_comm]
    have hpos : (0 : Int) < 10 ^ i := Int.pow_pos (by omega)
    by_cases hd : 48 ≤ (l[i]).toNat ∧ (l[i]).toNat ≤ 57
    · have e1 : decide ((48 : Int) ≤ ((l[i]).toNat : Int) ∧ ((l[i]).toNat : Int) ≤ 57) = true := decide_eq_true (by omega)
      rw [if_pos hd]
      have hstep := digit_step (x := l[i]) (n := n) h0 (by omega)
      rw [hw] at hstep
      simp only [hsz, d1, d2, cond_true, Option.bind_some, hgi, hw, inRange_ok, e1, hstep, selim, hw1]
      have := ih (i + 1) (10 * n + (((l[i]).toNat : Int) - 48)) (by omega) (by omega) (by omega)
      simp only [hsz, d2, inRange_ok, Option.bind_some, show (decide (i + 1 = 0)) = false from rfl] at this
      exact this
    · have e1 : decide ((48 : Int) ≤ ((l[i]).toNat : Int) ∧ ((l[i]).toNat : Int) ≤ 57) = false := decide_eq_false (by omega)
      rw [if_neg hd]
      by_cases hz : i = 0
      · have d3 : decide ((0 : Int) < (i : Int)) = false := decide_eq_false (by omega)
        by_cases h45 : l[i] = 45
        · have e2 : (((l[i]).toNat : Int) != ((45 : UInt8).toNat : Int)) = false := by rw [h45]; rfl
          rw [if_pos ⟨by simpa using hz, h45⟩]
          simp only [hsz, d1, d2, d3, cond_true, cond_false, Option.bind_some, hgi, hw, inRange_ok, e1, e2, selim, hw1]
          have := ih (i + 1) n (by omega) h0 (by omega)
          simp only [hsz, d2, inRange_ok, Option.bind_some, show (decide (i + 1 = 0)) = false from rfl] at this
          exact this
        · have e2 : (((l[i]).toNat : Int) != ((45 : UInt8).toNat : Int)) = true := by
            apply bne_iff_ne.2
            intro h
            exact h45 (UInt8.toNat_inj.1 (by omega))
          rw [if_neg (fun q => h45 q.2)]
          simp only [hsz, d1, d2, d3, cond_true, cond_false, Option.bind_some, hgi, hw, inRange_ok, e1, e2, selim]
      · have d3 : decide ((0 : Int) < (i : Int)) = true := decide_eq_true (by omega)
        rw [if_neg (fun q => hz (by simpa using q.1))]
        simp only [hsz, d1, d2, d3, cond_true, cond_false, Option.bind_some, hgi, hw, inRange_ok, e1, selim]
noncomputable def parV (l : List UInt8) : Int × Bool :=
  if 1 ≤ l.length ∧ l.length ≤ 4 then
    match scan l true 0 with
    | none => (0, false)
    | some n => if decI (signed l n) = l then (signed l n, true) else (0, false)
  else (0, false)
theorem head45 {s : ByteArray} {l : List UInt8} (hl : ln s = l) : Option.bind ((bif decide (0 < (s.size : Int)) then
  (gsix s 0).bind fun x32 =>
  some ((x32.toNat : Int) == ((45 : UInt8).toNat : Int))
 else
  some false)) (fun o30 => some o30) = some (decide (l.head? = some 45)) := by
  have hsz : (s.size : Int) = (l.length : Int) := by rw [← hl]; rfl
  cases l with
  | nil =>
    have d1 : decide (0 < (s.size : Int)) = false := decide_eq_false (by rw [hsz]; simp)
    simp only [d1, cond_false, Option.bind_some]; simp
  | cons b r =>
    have d1 : decide (0 < (s.size : Int)) = true := decide_eq_true (by rw [hsz, List.length_cons]; omega)
    have hg : gsix s 0 = some b := by
      have := gsix_at (s := s) (i := 0) (by rw [hl]; simp)
      simp only [hl, List.getElem_cons_zero] at this
      exact this
    simp only [d1, cond_true, hg, Option.bind_some, List.head?_cons, Option.some.injEq]
    by_cases h : b = 45
    · simp [h]
    · have : ((b.toNat : Int) == ((45 : UInt8).toNat : Int)) = false := by
        apply beq_false_of_ne
        intro q
        exact h (UInt8.toNat_inj.1 (by omega))
      rw [this]; simp [h]
theorem specParse_ok {s : ByteArray} (hs : (ln s).length ≤ 1048576) : M.spec_parseInt s = some (parV (ln s)) := by
  unfold M.spec_parseInt
  generalize hl : ln s = l at *
  have hsz : (s.size : Int) = (l.length : Int) := by rw [← hl]; rfl
  have hh := head45 hl
  rw [bind_id] at hh
  by_cases h4 : l.length ≤ 4
  · have hloop := parse_loop hl h4 l.length 0 0 (by omega) (by omega) (by decide)
    simp only [Int.cast_ofNat_Int, List.drop_zero, decide_true] at hloop
    rw [hloop]
    cases hsc : scan l true 0 with
    | none =>
      simp only [Option.bind_some, selim]
      unfold parV
      rw [hsc]; simp
    | some n =>
      obtain ⟨n0, n1⟩ := scan_small h4 hsc
      have hsg : Option.bind ((bif decide (l.head? = some 45) then some (w64 (0 - n)) else some n)) (fun o35 => some o35) = some (signed l n) := by
        unfold signed
        by_cases q : l.head? = some 45
        · have : w64 (0 - n) = -n := by rw [w64_id (by omega) (by omega)]; omega
          have this2 : w64 (-n) = -n := w64_id (by omega) (by omega)
          simp [q, this2]
        · simp [q]
      rw [bind_id] at hsg
      have hb : -10000 ≤ signed l n ∧ signed l n ≤ 10000 := by unfold signed; split <;> omega
      simp only [Option.bind_some, selim, hh, hsg]
      unfold parV
      by_cases h1 : 1 ≤ l.length
      · have d1 : ((s.size : Int) == 0) = false := beq_false_of_ne (by omega)
        have d2 : decide (4 < (s.size : Int)) = false := decide_eq_false (by omega)
        simp only [d1, d2, cond_false, specDecimal_ok (show -100000000000000000 < signed l n by omega) (show signed l n < 100000000000000000 by omega), Option.bind_some, toList_ln, ln_bsq, hl, h1, h4, and_self, if_true, hsc]
        by_cases q : decI (signed l n) = l
        · simp [q]
        · have : (decI (signed l n) == l) = false := beq_false_of_ne q
          simp [this, q]
      · have d1 : ((s.size : Int) == 0) = true := beq_iff_eq.2 (by omega)
        simp [d1, h1]
  · have d0 : ∀ i : Int, (bif decide (i < (s.size : Int)) then some (decide ((s.size : Int) ≤ 4)) else some false) = some false := fun i => by
      have : decide ((s.size : Int) ≤ 4) = false := decide_eq_false (by omega)
      rw [this]; cases decide (i < (s.size : Int)) <;> rfl
    rw [loopM_eq]
    simp only [d0, Option.bind_some, cond_false, selim, hh]
    unfold parV
    have d1 : ((s.size : Int) == 0) = false := beq_false_of_ne (by omega)
    have d2 : decide (4 < (s.size : Int)) = true := decide_eq_true (by omega)
    rw [if_neg (fun q => h4 q.2)]
    cases decide (l.head? = some 45) <;> simp [d1, d2]
end Go.Vs

namespace Go.Vs

noncomputable def numV (l : List UInt8) : Int := if (parV l).2 = true then (parV l).1 else -1
theorem specNum_ok {s : ByteArray} (h : (ln s).length ≤ 1048576) : M.spec_numberOf s = some (numV (ln s)) := by
  unfold M.spec_numberOf numV
  simp only [specParse_ok h, Option.bind_some]
  cases (parV (ln s)).2 <;> simp
noncomputable def vecV (l : List UInt8) : List Int := if (splitL 44 l).all (fun p => (parV p).2) = true then (splitL 44 l).map (fun p => (parV p).1) else []
theorem vecV_len (l : List UInt8) : (vecV l).length ≤ l.length + 1 := by
  unfold vecV
  split
  · rw [List.length_map]; exact splitL_len _ _
  · simp
theorem specVec_ok {s : ByteArray} (h : (ln s).length ≤ 1048576) : M.spec_vectorOf s = some (vecV (ln s)) := by
  unfold M.spec_vectorOf vecV
  simp only [specSplit_ok h, Option.bind_some]
  have hn := splitL_len 44 (ln s)
  have hp := fun p hp => splitL_part (c := 44) (l := ln s) (p := p) hp
  generalize splitL 44 (ln s) = ps at *
  have hz : (([] : List Int), (0 : Int)) = ((fun i => (ps.take i).map fun p => (parV p).1) 0, 0) := rfl
  rw [hz, loop_scan (xs := ps) (P := fun p => (parV p).2) (st := fun i => (ps.take i).map fun p => (parV p).1) (t := ps.map fun p => (parV p).1) (r := [])]
  · by_cases hall : ps.all (fun p => (parV p).2) = true
    · simp only [hall, if_true, Option.bind_some, selim]
    · rw [if_neg hall, if_neg hall]; rfl
  · intro i hi _ hpi
    have e1 : decide ((i : Int) < ((ps.map bsq).length : Int)) = true := decide_eq_true (by simp; omega)
    have e2 : w64 ((i : Int) + 1) = (i : Int) + 1 := w64_id (by omega) (by omega)
    have g : gidx (ps.map bsq) (i : Int) = some (bsq ps[i]) := by rw [gidx_nat (by simpa using hi)]; simp
    have hl : (ln (bsq ps[i])).length ≤ 1048576 := by rw [ln_bsq]; have := hp _ (List.getElem_mem hi); omega
    simp only [e1, cond_true, g, Option.bind_some, specParse_ok hl, ln_bsq, hpi, Bool.not_true, cond_false, e2]
    rw [gapp_ok (by simp; omega), List.take_succ_eq_append_getElem hi, List.map_append]
    rfl
  · intro i hi _ hpi
    have e1 : decide ((i : Int) < ((ps.map bsq).length : Int)) = true := decide_eq_true (by simp; omega)
    have g : gidx (ps.map bsq) (i : Int) = some (bsq ps[i]) := by rw [gidx_nat (by simpa using hi)]; simp
    have hl : (ln (bsq ps[i])).length ≤ 1048576 := by rw [ln_bsq]; have := hp _ (List.getElem_mem hi); omega
    simp only [e1, cond_true, g, Option.bind_some, specParse_ok hl, ln_bsq, hpi, Bool.not_false]
  · intro _
    have e1 : decide ((ps.length : Int) < ((ps.map bsq).length : Int)) = false := decide_eq_false (by simp)
    simp only [e1, cond_false, List.take_length]

/-! ## Hits -/
theorem k32 : ByteArray.mk #[32] = bsq [32] := ln_inj (ln_bsq _).symm
theorem k58 : ByteArray.mk #[58] = bsq [58] := ln_inj (ln_bsq _).symm
def hitT (h : Hit) : List UInt8 := decI h.1 ++ 58 :: decI h.2
def hitsP : List Hit → List UInt8
  | [] => []
  | [h] => hitT h
  | h :: k :: t => hitT h ++ 32 :: hitsP (k :: t)
theorem hitsP_snoc (x : Hit) : ∀ l : List Hit, hitsP (l ++ [x]) = if l = [] then hitT x else hitsP l ++ 32 :: hitT x
  | [] => rfl
  | [h] => by simp [hitsP]
  | h :: k :: t => by
    have := hitsP_snoc x (k :: t)
    rw [if_neg (by simp)] at this
    rw [if_neg (by simp)]
    simp only [List.cons_append] at this ⊢
    rw [hitsP, this, hitsP]
    simp
def inR (n : Int) : Prop := -10000000000000000 < n ∧ n < 10000000000000000
theorem decI_len {n : Int} (h : inR n) : 1 ≤ (decI n).length ∧ (decI n).length ≤ 18 := by
  have hpw : pw 16 = 100000000000000000 := by decide
  unfold inR at h
  unfold decI
  split
  · have := decN_len 16 n.natAbs (by omega)
    simp only [List.length_cons]; omega
  · have := decN_len 16 n.toNat (by omega)
    omega
theorem hitsP_len : ∀ {l : List Hit}, (∀ x ∈ l, inR x.1 ∧ inR x.2) → (hitsP l).length ≤ 40 * l.length
  | [], _ => by simp [hitsP]
  | [h], hx => by
    have h1 := decI_len (hx h (by simp)).1
    have h2 := decI_len (hx h (by simp)).2
    simp [hitsP, hitT]; omega
  | h :: k :: t, hx => by
    have h1 := decI_len (hx h (by simp)).1
    have h2 := decI_len (hx h (by simp)).2
    have := hitsP_len (l := k :: t) (fun x hm => hx x (by simp [hm]))
    rw [hitsP]
    simp only [hitT, List.length_append, List.length_cons] at this ⊢; omega
theorem specHits_ok {l : List Hit} (hl : l.length ≤ 1000) (hx : ∀ x ∈ l, inR x.1 ∧ inR x.2) : M.spec_hitsText l = some (bsq (hitsP l)) := by
  unfold M.spec_hitsText
  have hrun := loop_run (R := ByteArray) (r := bsq (hitsP l)) (f := fun (s2 : (ByteArray) × (Int)) => (bif decide (s2.2 < (l.length : Int)) then
  Option.bind ((bif decide (0 < s2.2) then
  (gcat s2.1 (ByteArray.mk #[32])).bind fun s7 =>
  some s7
 else
  some s2.1)) fun o5 =>
  (gidx l s2.2).bind fun x10 =>
  (M.spec_decimal 100 x10.1).bind fun r16 =>
  (gcat o5 r16).bind fun s19 =>
  (gcat s19 (ByteArray.mk #[58])).bind fun s21 =>
  (gidx l s2.2).bind fun x23 =>
  (M.spec_decimal 100 x23.2).bind fun r29 =>
  (gcat s21 r29).bind fun s33 =>
  some (.inl (s33, w64 (s2.2 + 1)))
 else
  some (.inr s2.1))) l.length (fun i => (bsq (hitsP (l.take i)), (i : Int))) ?_ ?_
  · have hz : (ByteArray.mk #[], (0 : Int)) = (bsq (hitsP (l.take 0)), ((0 : Nat) : Int)) := rfl
    rw [hz, hrun]; rfl
  · intro i hi
    have hb := hitsP_len (l := l.take i) (fun x hm => hx x (List.mem_of_mem_take hm))
    have hbl : (l.take i).length = i := by rw [List.length_take]; omega
    obtain ⟨r1, r2⟩ := hx _ (List.getElem_mem hi)
    have d1 := decI_len r1
    have d2 := decI_len r2
    unfold inR at r1 r2
    have e1 : decide ((i : Int) < (l.length : Int)) = true := decide_eq_true (by omega)
    have hw := w64_succ (i := i) (show i < 4000000000000000000 by omega)
    rw [List.take_succ_eq_append_getElem hi, hitsP_snoc]
    generalize hitsP (l.take i) = A at hb ⊢
    have hD1 := specDecimal_ok (n := l[i].1) (by omega) (by omega)
    have hD2 := specDecimal_ok (n := l[i].2) (by omega) (by omega)
    generalize M.spec_decimal 100 = D at hD1 hD2 ⊢
    simp only [e1, cond_true, gidx_nat hi, Option.bind_some, hD1, hD2, hw, k32, k58]
    by_cases h0 : i = 0
    · have hA : l.take i = [] := by rw [h0]; rfl
      have e2 : decide ((0 : Int) < (i : Int)) = false := decide_eq_false (by omega)
      rw [if_pos hA]
      have hA0 : A = [] := by
        cases A with
        | nil => rfl
        | cons a b => simp only [List.length_cons] at hb; omega
      subst hA0
      simp only [e2, cond_false, Option.bind_some]
      rw [gcat_at (by simp only [ln_bsq, List.length_nil]; omega), Option.bind_some, gcat_at (by simp only [ln_bsq, List.length_append, List.length_singleton, List.length_nil]; omega), Option.bind_some, gcat_at (by simp only [ln_bsq, List.length_append, List.length_singleton, List.length_nil]; omega), Option.bind_some]
      simp [ln_bsq, hitT]
    · have hA : l.take i ≠ [] := by intro q; rw [q] at hbl; simp at hbl; omega
      have e2 : decide ((0 : Int) < (i : Int)) = true := decide_eq_true (by omega)
      rw [if_neg hA]
      simp only [e2, cond_true]
      rw [gcat_at (by simp only [ln_bsq, List.length_singleton]; omega)]
      simp only [Option.bind_some]
      rw [gcat_at (by simp only [ln_bsq, List.length_append, List.length_singleton]; omega), Option.bind_some, gcat_at (by simp only [ln_bsq, List.length_append, List.length_singleton]; omega), Option.bind_some, gcat_at (by simp only [ln_bsq, List.length_append, List.length_singleton]; omega), Option.bind_some]
      simp [ln_bsq, hitT]
  · have e1 : decide ((l.length : Int) < (l.length : Int)) = false := decide_eq_false (by omega)
    simp only [e1, cond_false, List.take_length]
end Go.Vs

namespace Go.Vs

theorem specPut2_ok {l : List Item} {x : Item} (h : SmallS l) (hx : x.2.1.length < 2000000) : M.spec_PutItem l (x.1, x.2.1, x.2.2) = some (putItem l x) := by
  cases h2 : isItem x with
  | true => exact specPutItem_ok h (by have := isItem_len h2; omega)
  | false =>
    unfold M.spec_PutItem putItem
    simp only [h.specv, specItem_ok (x := x) hx, Option.bind_some, h2]
    cases okStore l <;> simp
end Go.Vs

namespace Go.Vs

abbrev Desk := List Item × Int
def okD (d : Desk) : Prop := okStore d.1 = true ∧ isKind d.2 = true
def tOk : List UInt8 := [111, 107]
def tNo : List UInt8 := [110, 111]
def tWhat : List UInt8 := [119, 104, 97, 116]
theorem kOk : ByteArray.mk #[111, 107] = bsq tOk := ln_inj (ln_bsq _).symm
theorem kNo : ByteArray.mk #[110, 111] = bsq tNo := ln_inj (ln_bsq _).symm
theorem kWhat : ByteArray.mk #[119, 104, 97, 116] = bsq tWhat := ln_inj (ln_bsq _).symm
def putD (d : Desk) (x : Item) : List UInt8 × Desk := if (putItem d.1 x).2 = true then (tOk, ((putItem d.1 x).1, d.2)) else (tNo, d)
def dropD (d : Desk) (k : Int) : List UInt8 × Desk := if (dropItem d.1 k).2 = true then (tOk, ((dropItem d.1 k).1, d.2)) else (tNo, d)
def nearK (d : Desk) (at_ : List Int) (k : Int) : List UInt8 := if isVec at_ = true ∧ 1 ≤ k ∧ k ≤ 16 then hitsP (topH k.toNat (hitsOf d.1 d.2 at_)) else tNo
theorem putD_ok {d : Desk} {x : Item} (h : okD d) : okD (putD d x).2 := by
  unfold putD
  split
  · rename_i hp
    refine ⟨?_, h.2⟩
    unfold putItem at hp ⊢
    split
    · rename_i q; simp only; rw [putS_okStore h.1 q.2.1]; simpa using q.2.2
    · rename_i q; rw [if_neg q] at hp; cases hp
  · exact h
theorem dropD_ok {d : Desk} {k : Int} (h : okD d) : okD (dropD d k).2 := by
  unfold dropD
  split
  · rename_i hp
    refine ⟨?_, h.2⟩
    unfold dropItem at hp ⊢
    split
    · exact okStore_sub h.1 dropS_sub
    · rename_i q; rw [if_neg q] at hp; cases hp
  · exact h
theorem specPutD_ok {d : Desk} {x : Item} (h : okD d) (hx : x.2.1.length < 2000000) : M.spec_desk_put (d.1, d.2) x.1 x.2.1 x.2.2 = some (bsq (putD d x).1, (putD d x).2) := by
  unfold M.spec_desk_put putD
  simp only [specPut2_ok (okStore_small h.1) hx, Option.bind_some, kOk, kNo]
  cases (putItem d.1 x).2 <;> simp
theorem specDropD_ok {d : Desk} {k : Int} (h : okD d) : M.spec_desk_drop (d.1, d.2) k = some (bsq (dropD d k).1, (dropD d k).2) := by
  unfold M.spec_desk_drop dropD
  simp only [specDropItem_ok (okStore_small h.1), Option.bind_some, kOk, kNo]
  cases (dropItem d.1 k).2 <;> simp
theorem near_inR {d : Desk} {at_ : List Int} {k : Nat} (h : okD d) (hv : isVec at_ = true) : ∀ x ∈ topH k (hitsOf d.1 d.2 at_), inR x.1 ∧ inR x.2 := by
  intro x hx
  obtain ⟨y, hy, rfl⟩ := hitsOf_mem.1 (topH_sub _ _ _ hx)
  have hi := (okStore_iff.1 h.1).2.1 y hy
  have h1 := (isItem_iff.1 hi).1
  have h2 := dist_range h.2 (isItem_vec hi) hv
  unfold inR
  exact ⟨⟨by simp only; omega, by simp only; omega⟩, by simp only; omega, by simp only; omega⟩
theorem near_len {d : Desk} {at_ : List Int} {k : Nat} (h : okD d) : (topH k (hitsOf d.1 d.2 at_)).length ≤ 16 := by
  rw [topH_len, hitsOf_len]
  have := (okStore_iff.1 h.1).1
  omega
theorem nearK_len {d : Desk} {at_ : List Int} {k : Int} (h : okD d) : (nearK d at_ k).length ≤ 1000 := by
  unfold nearK
  split
  · rename_i q
    have h1 := hitsP_len (near_inR (k := k.toNat) h q.1)
    have h2 := near_len (at_ := at_) (k := k.toNat) h
    omega
  · simp [tNo]
theorem specNearK_ok {d : Desk} {at_ : List Int} {k : Int} (h : okD d) (ha : at_.length < 2000000) : M.spec_desk_near (d.1, d.2) at_ k = some (bsq (nearK d at_ k)) := by
  unfold M.spec_desk_near nearK
  simp only [spec_isVec at_ ha, inRange_ok, Option.bind_some, kNo]
  cases hv : isVec at_ with
  | false => simp
  | true =>
    by_cases hk : 1 ≤ k ∧ k ≤ 16
    · obtain ⟨n, rfl⟩ := Int.eq_ofNat_of_zero_le (show 0 ≤ k by omega)
      have hq : okQuery d.1 d.2 at_ = true := okQuery_iff.2 ⟨h.1, h.2, hv⟩
      have hn := specNearest1_ok (k := n) hq (by omega)
      have hl := near_len (at_ := at_) (k := n) h
      simp only [Bool.not_true, cond_false, Option.bind_some, decide_eq_true hk, hn, specHits_ok (show (topH n (hitsOf d.1 d.2 at_)).length ≤ 1000 by omega) (near_inR h hv), true_and, if_pos hk, Int.toNat_natCast]
    · simp [hk]
def wd (w : List (List UInt8)) (i : Nat) : List UInt8 := w.getD i []
noncomputable def pairD (d : Desk) : List UInt8 := if (closestPair d.1 d.2).2.2 = true then decI (closestPair d.1 d.2).1 ++ 32 :: decI (closestPair d.1 d.2).2.1 else tNo
noncomputable def lineD (d : Desk) (l : List UInt8) : List UInt8 × Desk :=
  let w := splitL 32 l
  if wd w 0 = [112, 117, 116] ∧ w.length = 4 then putD d (numV (wd w 1), vecV (wd w 2), numV (wd w 3))
  else if wd w 0 = [100, 114, 111, 112] ∧ w.length = 2 then dropD d (numV (wd w 1))
  else if wd w 0 = [110, 101, 97, 114] ∧ w.length = 3 then (nearK d (vecV (wd w 1)) (numV (wd w 2)), d)
  else if wd w 0 = [107, 105, 110, 100] ∧ w.length = 2 then (if isKind (numV (wd w 1)) = true then (tOk, (d.1, numV (wd w 1))) else (tNo, d))
  else if l = [112, 97, 105, 114] then (pairD d, d)
  else if l = [99, 111, 117, 110, 116] then (decI (d.1.length : Int), d)
  else (tWhat, d)
theorem lineD_ok {d : Desk} {l : List UInt8} (h : okD d) : okD (lineD d l).2 := by
  unfold lineD
  simp only
  split
  · exact putD_ok h
  split
  · exact dropD_ok h
  split
  · exact h
  split
  · split
    · rename_i q; exact ⟨h.1, q⟩
    · exact h
  split
  · exact h
  split <;> exact h
theorem pair_inR {d : Desk} (h : okD d) : inR (closestPair d.1 d.2).1 ∧ inR (closestPair d.1 d.2).2.1 := by
  unfold closestPair
  cases hc : closest d.1 d.2 with
  | none => unfold inR; simp
  | some p =>
    obtain ⟨_, _, hp, _⟩ := closest_some hc
    obtain ⟨i, j, hi, hj, _, rfl⟩ := mem_pairsOf.1 hp
    have h1 := (isItem_iff.1 ((okStore_iff.1 h.1).2.1 _ (List.getElem_mem hi))).1
    have h2 := (isItem_iff.1 ((okStore_iff.1 h.1).2.1 _ (List.getElem_mem hj))).1
    unfold inR
    exact ⟨⟨by simp only; omega, by simp only; omega⟩, by simp only; omega, by simp only; omega⟩
theorem lineD_len {d : Desk} {l : List UInt8} (h : okD d) : (lineD d l).1.length ≤ 1000 := by
  unfold lineD
  simp only
  split
  · unfold putD; split <;> simp [tOk, tNo]
  split
  · unfold dropD; split <;> simp [tOk, tNo]
  split
  · exact nearK_len h
  split
  · split <;> simp [tOk, tNo]
  split
  · unfold pairD
    obtain ⟨a, b⟩ := pair_inR h
    have h1 := decI_len a
    have h2 := decI_len b
    split
    · simp only [List.length_append, List.length_cons]; omega
    · simp [tNo]
  split
  · have hl := (okStore_iff.1 h.1).1
    have := decI_len (n := (d.1.length : Int)) (by unfold inR; omega)
    simp only; omega
  · simp [tWhat]
end Go.Vs

namespace Go.Vs

theorem wd_get {w : List (List UInt8)} {i : Nat} (h : i < w.length) : gidx (w.map bsq) (i : Int) = some (bsq (wd w i)) := by
  rw [gidx_nat (by simpa using h)]
  unfold wd
  simp [List.getD, h]
theorem wd_mem {w : List (List UInt8)} {i : Nat} (h : i < w.length) : wd w i ∈ w := by
  unfold wd
  rw [List.getD_eq_getElem?_getD, List.getElem?_eq_getElem h]
  exact List.getElem_mem h
theorem cmd_ok {w : List (List UInt8)} (K : List UInt8) (m : Nat) (h : w ≠ []) : Option.bind (gidx (w.map bsq) 0) (fun x => (bif x.toList == (ByteArray.mk K.toArray).toList then
  some (((w.map bsq).length : Int) == (m : Int))
 else
  some false)) = some (decide (wd w 0 = K ∧ w.length = m)) := by
  have hl : 0 < w.length := List.length_pos_iff.2 h
  have g : gidx (w.map bsq) 0 = some (bsq (wd w 0)) := wd_get (i := 0) hl
  rw [g, Option.bind_some, toList_ln, toList_ln, ln_bsq, ln_mk]
  by_cases e : wd w 0 = K
  · rw [e]
    by_cases e2 : w.length = m
    · have : (((w.map bsq).length : Int) == (m : Int)) = true := beq_iff_eq.2 (by simp; omega)
      simp [this, e2]
    · have : (((w.map bsq).length : Int) == (m : Int)) = false := beq_false_of_ne (by simp; omega)
      simp [this, e2]; omega
  · have : (wd w 0 == K) = false := beq_false_of_ne e
    simp [this, e]
theorem specLine_ok {d : Desk} {s : ByteArray} (h : okD d) (hs : (ln s).length ≤ 1048575) : M.spec_desk_line (d.1, d.2) s = some (bsq (lineD d (ln s)).1, (lineD d (ln s)).2) := by
  unfold M.spec_desk_line
  have hsp := specSplit_ok (s := s) (c := 32) (by omega)
  have hpart := fun p hp => splitL_part (c := 32) (l := ln s) (p := p) hp
  have hne := splitL_ne 32 (ln s)
  have hD : ∀ {n : Int}, inR n → M.spec_decimal 100 n = some (bsq (decI n)) := fun h => specDecimal_ok (by unfold inR at h; omega) (by unfold inR at h; omega)
  have hpair := pair_inR h
  generalize M.spec_decimal 100 = D at hD ⊢
  generalize hl : ln s = l at *
  unfold lineD
  simp only [hsp, Option.bind_some]
  generalize splitL 32 l = w at *
  have sz : ∀ {i : Nat}, i < w.length → (ln (bsq (wd w i))).length ≤ 1048575 := fun hi => by
    rw [ln_bsq]; have := hpart _ (wd_mem hi); omega
  have c1 := cmd_ok (w := w) [112, 117, 116] 4 hne
  have c2 := cmd_ok (w := w) [100, 114, 111, 112] 2 hne
  have c3 := cmd_ok (w := w) [110, 101, 97, 114] 3 hne
  have c4 := cmd_ok (w := w) [107, 105, 110, 100] 2 hne
  have t1 : ∀ K : List UInt8, (s.toList == (ByteArray.mk K.toArray).toList) = decide (l = K) := fun K => by
    rw [toList_ln, toList_ln, hl, ln_mk]
    by_cases e : l = K
    · simp [e]
    · rw [beq_false_of_ne e]; simp [e]
  have p1 := t1 [112, 97, 105, 114]
  have p2 := t1 [99, 111, 117, 110, 116]
  simp only [Int.cast_ofNat_Int] at c1 c2 c3 c4
  rw [show (ByteArray.mk #[112, 117, 116]) = ByteArray.mk ([112, 117, 116] : List UInt8).toArray from rfl, show (ByteArray.mk #[100, 114, 111, 112]) = ByteArray.mk ([100, 114, 111, 112] : List UInt8).toArray from rfl, show (ByteArray.mk #[110, 101, 97, 114]) = ByteArray.mk ([110, 101, 97, 114] : List UInt8).toArray from rfl, show (ByteArray.mk #[107, 105, 110, 100]) = ByteArray.mk ([107, 105, 110, 100] : List UInt8).toArray from rfl, show (ByteArray.mk #[112, 97, 105, 114]) = ByteArray.mk ([112, 97, 105, 114] : List UInt8).toArray from rfl, show (ByteArray.mk #[99, 111, 117, 110, 116]) = ByteArray.mk ([99, 111, 117, 110, 116] : List UInt8).toArray from rfl]
  rw [c1, Option.bind_some]
  by_cases q1 : wd w 0 = [112, 117, 116] ∧ w.length = 4
  · have g1 : gidx (w.map bsq) 1 = some (bsq (wd w 1)) := wd_get (i := 1) (by omega)
    have g2 : gidx (w.map bsq) 2 = some (bsq (wd w 2)) := wd_get (i := 2) (by omega)
    have g3 : gidx (w.map bsq) 3 = some (bsq (wd w 3)) := wd_get (i := 3) (by omega)
    have s1 := sz (i := 1) (by omega)
    have s2 := sz (i := 2) (by omega)
    have s3 := sz (i := 3) (by omega)
    have hv := vecV_len (wd w 2)
    rw [ln_bsq] at s2
    have hp := specPutD_ok (d := d) (x := (numV (wd w 1), vecV (wd w 2), numV (wd w 3))) h (by simp only; omega)
    simp only [decide_eq_true q1, cond_true, g1, g2, g3, Option.bind_some, specNum_ok (s := bsq (wd w 1)) (by omega), specNum_ok (s := bsq (wd w 3)) (by omega), specVec_ok (s := bsq (wd w 2)) (by rw [ln_bsq]; omega), ln_bsq, hp, if_pos q1]
  rw [decide_eq_false q1, cond_false, c2, Option.bind_some, if_neg q1]
  by_cases q2 : wd w 0 = [100, 114, 111, 112] ∧ w.length = 2
  · have g1 : gidx (w.map bsq) 1 = some (bsq (wd w 1)) := wd_get (i := 1) (by omega)
    have s1 := sz (i := 1) (by omega)
    have hp := specDropD_ok (d := d) (k := numV (wd w 1)) h
    simp only [decide_eq_true q2, cond_true, g1, Option.bind_some, specNum_ok (s := bsq (wd w 1)) (by omega), ln_bsq, hp, if_pos q2]
  rw [decide_eq_false q2, cond_false, c3, Option.bind_some, if_neg q2]
  by_cases q3 : wd w 0 = [110, 101, 97, 114] ∧ w.length = 3
  · have g1 : gidx (w.map bsq) 1 = some (bsq (wd w 1)) := wd_get (i := 1) (by omega)
    have g2 : gidx (w.map bsq) 2 = some (bsq (wd w 2)) := wd_get (i := 2) (by omega)
    have s1 := sz (i := 1) (by omega)
    have s2 := sz (i := 2) (by omega)
    have hv := vecV_len (wd w 1)
    rw [ln_bsq] at s1
    have hp := specNearK_ok (d := d) (at_ := vecV (wd w 1)) (k := numV (wd w 2)) h (by omega)
    simp only [decide_eq_true q3, cond_true, g1, g2, Option.bind_some, specNum_ok (s := bsq (wd w 2)) (by omega), specVec_ok (s := bsq (wd w 1)) (by rw [ln_bsq]; omega), ln_bsq, hp, if_pos q3]
  rw [decide_eq_false q3, cond_false, c4, Option.bind_some, if_neg q3]
  by_cases q4 : wd w 0 = [107, 105, 110, 100] ∧ w.length = 2
  · have g1 : gidx (w.map bsq) 1 = some (bsq (wd w 1)) := wd_get (i := 1) (by omega)
    have s1 := sz (i := 1) (by omega)
    simp only [decide_eq_true q4, cond_true, g1, Option.bind_some, specNum_ok (s := bsq (wd w 1)) (by omega), ln_bsq, specKind_ok, if_pos q4, kOk, kNo]
    cases isKind (numV (wd w 1)) <;> simp
  rw [decide_eq_false q4, cond_false, p1, if_neg q4]
  by_cases q5 : l = [112, 97, 105, 114]
  · rw [decide_eq_true q5, cond_true, if_pos q5]
    obtain ⟨r1, r2⟩ := hpair
    have l1 := decI_len r1
    have l2 := decI_len r2
    simp only [specClosest_ok (okStore_small h.1), Option.bind_some, hD r1, hD r2, k32, kNo]
    unfold pairD
    cases hb : (closestPair d.1 d.2).2.2 with
    | false => simp
    | true =>
      simp only [Bool.not_true, cond_false, if_true]
      rw [gcat_at (by simp only [ln_bsq, List.length_singleton]; omega), Option.bind_some, gcat_at (by simp only [ln_bsq, List.length_append, List.length_singleton]; omega), Option.bind_some]
      simp [ln_bsq]
  rw [decide_eq_false q5, cond_false, p2, if_neg q5]
  by_cases q6 : l = [99, 111, 117, 110, 116]
  · have hlen := (okStore_iff.1 h.1).1
    rw [decide_eq_true q6, cond_true, if_pos q6, hD (show inR (d.1.length : Int) by unfold inR; omega), Option.bind_some]
  · rw [decide_eq_false q6, cond_false, if_neg q6, kWhat]
end Go.Vs

namespace Go.Vs

noncomputable def sesV : List (List UInt8) → Desk → List UInt8
  | [], _ => []
  | l :: r, d => (lineD d l).1 ++ 10 :: sesV r (lineD d l).2
theorem k10 : ByteArray.mk #[10] = bsq [10] := ln_inj (ln_bsq _).symm
theorem specRun_ok {ls : List ByteArray} (h : ls.length ≤ 1048576) (hx : ∀ s ∈ ls, s.size ≤ 1048575) : M.spec_RunSession ls = some (bsq (sesV ((ls.take 20).map ln) ([], 1))) := by
  unfold M.spec_RunSession
  have key : ∀ (m i : Nat) (d : Desk) (out : List UInt8), i + m = (ls.take 20).length → okD d → out.length ≤ 2000 * i →
      loopM (fun (s6 : ((List (Int × (List Int) × Int)) × (Int)) × (ByteArray) × (Int)) => Option.bind ((bif decide (s6.2.2 < (ls.length : Int)) then
  some (decide (s6.2.2 < 20))
 else
  some false)) fun o12 =>
  (bif o12 then
  (gidx ls s6.2.2).bind fun x16 =>
  (M.spec_desk_line (s6.1.1, s6.1.2) x16).bind fun r22 =>
  (gcat s6.2.1 r22.1).bind fun s28 =>
  (gcat s28 (ByteArray.mk #[10])).bind fun s30 =>
  some (.inl ((r22.2.1, r22.2.2), s30, w64 (s6.2.2 + 1)))
 else
  some (.inr s6.2.1))) ((d.1, d.2), bsq out, (i : Int)) = some (bsq (out ++ sesV (((ls.take 20).drop i).map ln) d)) := by
    intro m
    have hl20 : (ls.take 20).length = min 20 ls.length := List.length_take
    induction m with
    | zero =>
      intro i d out him _ _
      rw [loopM_eq, List.drop_eq_nil_of_le (by omega)]
      by_cases hi : i < ls.length
      · have d1 : decide ((i : Int) < (ls.length : Int)) = true := decide_eq_true (by omega)
        have d2 : decide ((i : Int) < 20) = false := decide_eq_false (by omega)
        simp only [d1, d2, cond_true, cond_false, Option.bind_some, selim, List.map_nil, sesV, List.append_nil]
      · have d1 : decide ((i : Int) < (ls.length : Int)) = false := decide_eq_false (by omega)
        simp only [d1, cond_false, Option.bind_some, selim, List.map_nil, sesV, List.append_nil]
    | succ m ih =>
      intro i d out him hd ho
      have hi : i < ls.length := by omega
      have hi2 : i < (ls.take 20).length := by omega
      have d1 : decide ((i : Int) < (ls.length : Int)) = true := decide_eq_true (by omega)
      have d2 : decide ((i : Int) < 20) = true := decide_eq_true (by omega)
      have hsz := hx _ (List.getElem_mem hi)
      have hline := specLine_ok (d := d) (s := ls[i]) hd hsz
      have hlen := lineD_len (d := d) (l := ln ls[i]) hd
      have hok := lineD_ok (d := d) (l := ln ls[i]) hd
      have hw := w64_succ (i := i) (show i < 4000000000000000000 by omega)
      have he : (ls.take 20)[i] = ls[i] := by simp
      rw [loopM_eq, List.drop_eq_getElem_cons hi2, List.map_cons, he, sesV]
      generalize lineD d (ln ls[i]) = r at hline hlen hok ⊢
      simp only [d1, d2, cond_true, Option.bind_some, gidx_nat hi, hline, k10, hw]
      rw [gcat_at (by simp only [ln_bsq]; omega), Option.bind_some, gcat_at (by simp only [ln_bsq, List.length_append, List.length_singleton]; omega)]
      simp only [Option.bind_some, selim, ln_bsq]
      have := ih (i + 1) r.2 (out ++ r.1 ++ [10]) (by omega) hok (by simp only [List.length_append, List.length_singleton]; omega)
      simp only [k10] at this
      rw [this]
      simp
  have := key (ls.take 20).length 0 ([], 1) [] (by omega) ⟨rfl, rfl⟩ (by simp)
  simp only [List.nil_append, List.drop_zero, Int.cast_ofNat_Int] at this
  rw [show ByteArray.mk #[] = bsq [] from rfl]
  rw [this, Option.bind_some]
abbrev OkSs (a : List ByteArray) : Prop := a.length ≤ 9223372036854775807 ∧ ∀ x ∈ a, x.size ≤ 9223372036854775807
theorem szStringS_ok {a : List ByteArray} (h : OkSs a) : ∃ s, M.laws_szStringS a 1048576 = some s ∧ (s < 0 ∨ (0 ≤ s ∧ a.length ≤ 1048576 ∧ ∀ x ∈ a, x.size ≤ 1048575)) := by
  unfold M.laws_szStringS
  have e0 : w64 (1048576 - (a.length : Int)) = 1048576 - (a.length : Int) := w64_id (by have := h.1; omega) (by have := h.1; omega)
  rw [e0]
  by_cases hn : 1048576 - (a.length : Int) < 0
  · exact ⟨-1, by simp [hn], .inl (by omega)⟩
  have hn' : decide (1048576 - (a.length : Int) < 0) = false := decide_eq_false hn
  simp only [hn', cond_false]
  have key : ∀ (m i : Nat) (left : Int), i + m = a.length → 0 ≤ left → left ≤ 1048576 - (a.length : Int) →
      ∃ s, Option.bind (loopM (fun (s3 : (Int) × (Int)) => (bif decide (s3.2 < (a.length : Int)) then
  (gidx a s3.2).bind fun x6 =>
  (bif decide ((w64 (s3.1 - (x6.size : Int))) < 0) then
  some (.inr (.inr (-1)))
 else
  some (.inl (w64 (s3.1 - (x6.size : Int)), w64 (s3.2 + 1))))
 else
  some (.inr (.inl s3.1)))) (left, (i : Int))) (selim (fun t13 => some t13) (fun t15 => some t15)) = some s ∧ (s < 0 ∨ (0 ≤ s ∧ ∀ x ∈ a.drop i, (x.size : Int) ≤ 1048576 - (a.length : Int))) := by
    intro m
    induction m with
    | zero =>
      intro i left him h0 _
      obtain rfl : i = a.length := by omega
      have d1 : decide ((a.length : Int) < (a.length : Int)) = false := decide_eq_false (by omega)
      refine ⟨left, ?_, .inr ⟨h0, ?_⟩⟩
      · rw [loopM_eq]; simp only [d1, cond_false, selim, Option.bind_some]
      · rw [List.drop_eq_nil_of_le (Nat.le_refl _)]; simp
    | succ m ih =>
      intro i left him h0 h1
      have hi : i < a.length := by omega
      have d1 : decide ((i : Int) < (a.length : Int)) = true := decide_eq_true (by omega)
      have hsz := h.2 _ (List.getElem_mem hi)
      have hw := w64_succ (i := i) (show i < 4000000000000000000 by omega)
      have e1 : w64 (left - (a[i].size : Int)) = left - (a[i].size : Int) := w64_id (by omega) (by omega)
      rw [loopM_eq]
      simp only [d1, cond_true, gidx_nat hi, Option.bind_some, e1, hw]
      by_cases hc : left - (a[i].size : Int) < 0
      · exact ⟨-1, by simp [hc, selim], .inl (by omega)⟩
      · have hc' : decide (left - (a[i].size : Int) < 0) = false := decide_eq_false hc
        obtain ⟨s, hs, hr⟩ := ih (i + 1) (left - (a[i].size : Int)) (by omega) (by omega) (by omega)
        refine ⟨s, ?_, ?_⟩
        · simp only [hc', cond_false, selim]; exact hs
        · rcases hr with hr | ⟨hr, hx⟩
          · exact .inl hr
          · refine .inr ⟨hr, fun x hxm => ?_⟩
            rw [List.drop_eq_getElem_cons hi] at hxm
            rcases List.mem_cons.1 hxm with rfl | hxm
            · omega
            · exact hx x hxm
  obtain ⟨s, hs, hr⟩ := key a.length 0 (1048576 - (a.length : Int)) (by omega) (by omega) (by omega)
  refine ⟨s, hs, ?_⟩
  rcases hr with hr | ⟨hr, hx⟩
  · exact .inl hr
  · refine .inr ⟨hr, by omega, fun x hxm => ?_⟩
    have := hx x (by simpa using hxm)
    have hpos := List.length_pos_of_mem hxm
    omega
theorem toStringS_ok {a : List ByteArray} (h : a.length ≤ 1048576) : M.laws_toStringS a = some a := by
  unfold M.laws_toStringS
  rw [gmake_ok (by omega) (by omega), Option.bind_some, Int.toNat_natCast]
  rw [map_loop (g := fun x : ByteArray => x) (by omega)]
  · simp
  · intro s i hi hi'
    have e5 : decide ((i : Int) < (a.length : Int)) = true := decide_eq_true (by omega)
    simp only [e5, cond_true, gidx_nat hi, gidx_nat hi', Option.bind_some, w64_succ (i := i) (show i < 4000000000000000000 by omega), Int.toNat_natCast]
  · intro s; simp
theorem eqStringS_self {a : List ByteArray} (h : a.length ≤ 1048576) : M.laws_eqStringS a a = some true := by
  unfold M.laws_eqStringS
  simp only [bne_self_eq_false, cond_false]
  rw [loop_all (xs := a) (P := fun _ => true) (r := false)]
  · simp [selim]
  · intro i hi
    have e5 : decide ((i : Int) < (a.length : Int)) = true := decide_eq_true (by omega)
    have e6 : w64 ((i : Int) + 1) = (i : Int) + 1 := w64_id (by omega) (by omega)
    simp only [e5, cond_true, gidx_nat hi, Option.bind_some, beq_self_eq_true, Bool.not_true, cond_false, e6, if_true]
  · simp
end Go.Vs
