/- Plain facts of what the functions compute. -/
import Derived.Test.YtpccmkphddipdabExactLogBetweenEng1
import Derived.Test.YtpccmkphddipdabExactLogBetweenLib1
set_option linter.unusedVariables false
set_option linter.unusedSimpArgs false
namespace Go.Vs

theorem loop_run {S R : Type} {f : S → Option (S ⊕ R)} {r : R} (k : Nat) (st : Nat → S) (hs : ∀ i, i < k → f (st i) = some (.inl (st (i + 1)))) (he : f (st k) = some (.inr r)) : loopM f (st 0) = some r := by
  induction k generalizing st with
  | zero => rw [loopM_eq, he]; rfl
  | succ k ih =>
    rw [loopM_eq, hs 0 (by omega)]
    exact ih (fun i => st (i + 1)) (fun i hi => hs (i + 1) (by omega)) he

theorem w64_nat {n : Nat} (h : n < 9223372036854775808) : w64 (n : Int) = n := w64_id (by omega) (by omega)
theorem gidx_nat {α : Type} {xs : List α} {i : Nat} (h : i < xs.length) : gidx xs (i : Int) = some xs[i] := by
  unfold gidx
  rw [if_pos (by omega)]
  simp [h]
theorem gapp_ok {α : Type} {xs ys : List α} (h : xs.length + ys.length ≤ 2147483648) : gapp xs ys = some (xs ++ ys) := by unfold gapp; rw [if_pos h]
theorem gmake_ok {α : Type} {k : Int} {z : α} (h0 : 0 ≤ k) (h1 : k ≤ 2147483648) : gmake k z = some (List.replicate k.toNat z) := by unfold gmake; rw [if_pos ⟨h0, h1⟩]
/-- A loop that looks at each element, and leaves at the first that fails. -/
theorem loop_all {α R : Type} {xs : List α} {P : α → Bool} {r : R} {f : Int → Option (Int ⊕ (Unit ⊕ R))} (hs : ∀ i (h : i < xs.length), f (i : Int) = some (if P xs[i] then .inl ((i : Int) + 1) else .inr (.inr r))) (he : f (xs.length : Int) = some (.inr (.inl ()))) :
    loopM f 0 = some (if xs.all P then .inl () else .inr r) := by
  have key : ∀ m k : Nat, k + m = xs.length → loopM f (k : Int) = some (if (xs.drop k).all P then .inl () else .inr r) := by
    intro m
    induction m with
    | zero =>
      intro k hk
      have : k = xs.length := by omega
      subst this
      rw [loopM_eq, he]; simp [selim]
    | succ m ih =>
      intro k hk
      have hlt : k < xs.length := by omega
      rw [loopM_eq, hs k hlt, List.drop_eq_getElem_cons hlt]
      by_cases hp : P xs[k] = true
      · rw [if_pos hp]
        have := ih (k + 1) (by omega)
        simp only [Int.natCast_add, Int.cast_ofNat_Int] at this
        simp only [List.all_cons, hp, Bool.true_and, selim, this, Option.bind_some]
      · rw [if_neg hp]
        simp only [List.all_cons, Bool.not_eq_true] at hp ⊢
        simp only [hp, Bool.false_and, selim, Option.bind_some]; rfl
  have := key xs.length 0 (by omega)
  simpa using this
end Go.Vs

namespace Go.Vs

/-- A reader that has been asked at most k times. -/
def Good (k : Nat) (r : List UInt8 × Int) : Prop := r.1.length ≤ 2000 ∧ 0 ≤ r.2 ∧ r.2 ≤ k
theorem Good.mono {k m : Nat} {r : List UInt8 × Int} (h : Good k r) (hm : k ≤ m) : Good m r := ⟨h.1, h.2.1, by have := h.2.2; omega⟩

/-- A valid vector. -/
def isVec (v : List Int) : Bool := decide (v.length = 4) && v.all fun x => decide (-100 ≤ x) && decide (x ≤ 100)
theorem isVec_iff {v : List Int} : isVec v = true ↔ v.length = 4 ∧ ∀ x ∈ v, -100 ≤ x ∧ x ≤ 100 := by
  unfold isVec; simp
theorem isVec_four {v : List Int} (h : isVec v = true) : ∃ a b c d, v = [a, b, c, d] ∧ (-100 ≤ a ∧ a ≤ 100) ∧ (-100 ≤ b ∧ b ≤ 100) ∧ (-100 ≤ c ∧ c ≤ 100) ∧ (-100 ≤ d ∧ d ≤ 100) := by
  obtain ⟨h1, h2⟩ := isVec_iff.1 h
  match v, h1 with
  | [a, b, c, d], _ => exact ⟨a, b, c, d, rfl, h2 a (by simp), h2 b (by simp), h2 c (by simp), h2 d (by simp)⟩

end Go.Vs
namespace Go.Vs
/-- A vector that may be drawn. -/
def Near (v : List Int) : Prop := v.length ≤ 5 ∧ ∀ x ∈ v, -101 ≤ x ∧ x ≤ 101
theorem copy_ok {v : List Int} (h : v.length ≤ 1000000) : M.spec_copyInts v = some v := by
  unfold M.spec_copyInts
  rw [gapp_ok (by simp; omega)]; rfl
theorem implCoords_ok (v : List Int) (hb : v.length < 2000000) : M.impl_validCoords v = some (v.all fun x => decide (-100 ≤ x) && decide (x ≤ 100)) := by
  unfold M.impl_validCoords
  rw [loop_all (xs := v) (P := fun x => decide (-100 ≤ x) && decide (x ≤ 100)) (r := false)]
  · by_cases ha : (v.all fun x => decide (-100 ≤ x) && decide (x ≤ 100)) = true
    · simp only [ha, if_true, Option.bind_some, selim]
    · simp only [Bool.not_eq_true] at ha
      simp only [ha]; simp [selim]
  · intro i h
    have e1 : decide ((i : Int) < (v.length : Int)) = true := by simpa using h
    have e2 : w64 ((i : Int) + 1) = (i : Int) + 1 := w64_id (by omega) (by omega)
    simp only [e1, cond_true, gidx_nat h, Option.bind_some, e2]
    by_cases c1 : v[i] < -100
    · have c2 : ¬ (-100 ≤ v[i]) := by omega
      simp [c1, c2]
    · by_cases c3 : 100 < v[i]
      · have c4 : ¬ (v[i] ≤ 100) := by omega
        simp [c1, c3, c4]
      · simp [c1, c3, show -100 ≤ v[i] by omega, show v[i] ≤ 100 by omega]
  · simp
theorem impl_valid (v : List Int) (hb : v.length < 2000000) : M.impl_ValidVector v = some (isVec v) := by
  unfold M.impl_ValidVector
  simp only [implCoords_ok v hb, Option.bind_some]
  unfold isVec
  by_cases hl : v.length = 4
  · have e : ((v.length : Int) == 4) = true := by simp; omega
    rw [e, cond_true, decide_eq_true hl, Bool.true_and]
  · have e : ((v.length : Int) == 4) = false := by simp; omega
    rw [e, cond_false, decide_eq_false hl, Bool.false_and]
theorem spec_inR (n l h : Int) : M.spec_inRange n l h = some (decide (l ≤ n) && decide (n ≤ h)) := by
  unfold M.spec_inRange
  by_cases h1 : l ≤ n <;> simp [h1]
theorem spec_all (v : List Int) (l h : Int) (hb : v.length < 2000000) : M.spec_allIn v l h = some (v.all fun x => decide (l ≤ x) && decide (x ≤ h)) := by
  unfold M.spec_allIn
  rw [loop_all (xs := v) (P := fun x => decide (l ≤ x) && decide (x ≤ h)) (r := false)]
  · by_cases ha : (v.all fun x => decide (l ≤ x) && decide (x ≤ h)) = true
    · simp only [ha, if_true, Option.bind_some, selim]
    · simp only [Bool.not_eq_true] at ha
      simp [ha, selim]
  · intro i hi
    have e1 : decide ((i : Int) < (v.length : Int)) = true := by simpa using hi
    have e2 : w64 ((i : Int) + 1) = (i : Int) + 1 := w64_id (by omega) (by omega)
    simp only [e1, cond_true, gidx_nat hi, Option.bind_some, e2, spec_inR]
    cases (decide (l ≤ v[i]) && decide (v[i] ≤ h)) <;> rfl
  · simp
theorem spec_isVec (v : List Int) (hb : v.length < 2000000) : M.spec_isVector v = some (isVec v) := by
  unfold M.spec_isVector
  by_cases hl : v.length = 4
  · have e : ((v.length : Int) == 4) = true := by simp; omega
    simp [e, spec_all v _ _ hb, isVec, hl]
  · have e : ((v.length : Int) == 4) = false := by simp; omega
    simp [e, isVec, hl]
end Go.Vs

namespace Go.Vs

end Go.Vs

namespace Go.Vs

theorem loop4 {S R : Type} {f : S → Option (S ⊕ R)} {s0 s1 s2 s3 s4 : S} {r : R} (h0 : f s0 = some (.inl s1)) (h1 : f s1 = some (.inl s2)) (h2 : f s2 = some (.inl s3)) (h3 : f s3 = some (.inl s4)) (h4 : f s4 = some (.inr r)) : loopM f s0 = some r := by
  rw [loopM_eq, h0, Option.bind_some, selim, loopM_eq, h1, Option.bind_some, selim, loopM_eq, h2, Option.bind_some, selim, loopM_eq, h3, Option.bind_some, selim, loopM_eq, h4]; rfl
theorem gi0 {α : Type} {a : α} {l : List α} : gidx (a :: l) 0 = some a := gidx_nat (i := 0) (by simp)
theorem gi1 {α : Type} {a b : α} {l : List α} : gidx (a :: b :: l) 1 = some b := gidx_nat (i := 1) (by simp)
theorem gi2 {α : Type} {a b c : α} {l : List α} : gidx (a :: b :: c :: l) 2 = some c := gidx_nat (i := 2) (by simp)
theorem gi3 {α : Type} {a b c d : α} {l : List α} : gidx (a :: b :: c :: d :: l) 3 = some d := gidx_nat (i := 3) (by simp)
theorem i01 : w64 ((0 : Int) + 1) = 1 := w64_id (by omega) (by omega)
theorem i12 : w64 ((1 : Int) + 1) = 2 := w64_id (by omega) (by omega)
theorem i23 : w64 ((2 : Int) + 1) = 3 := w64_id (by omega) (by omega)
theorem i34 : w64 ((3 : Int) + 1) = 4 := w64_id (by omega) (by omega)
theorem d04 : decide ((0 : Int) < 4) = true := rfl
theorem d14 : decide ((1 : Int) < 4) = true := rfl
theorem d24 : decide ((2 : Int) < 4) = true := rfl
theorem d34 : decide ((3 : Int) < 4) = true := rfl
theorem d44 : decide ((4 : Int) < 4) = false := rfl
theorem l4 {α : Type} {a b c d : α} : (([a, b, c, d] : List α).length : Int) = 4 := rfl

/-- How far two coordinates lie apart. -/
def gap (x y : Int) : Int := max (x - y) (y - x)
theorem gap_nonneg (x y : Int) : 0 ≤ gap x y := by unfold gap; omega
theorem gap_zero (x y : Int) : gap x y = 0 ↔ x = y := by unfold gap; omega
/-- A coordinate. -/
def Co (x : Int) : Prop := -100 ≤ x ∧ x ≤ 100
theorem gap_le {x y : Int} (hx : Co x) (hy : Co y) : gap x y ≤ 200 := by unfold gap; unfold Co at hx hy; omega
theorem sq_bounds {g : Int} (h0 : 0 ≤ g) (h : g ≤ 200) : 0 ≤ g * g ∧ g ≤ g * g ∧ g * g ≤ 40000 := by
  refine ⟨Int.mul_nonneg h0 h0, ?_, ?_⟩
  · by_cases h1 : g = 0
    · subst h1; simp
    · have := Int.mul_le_mul_of_nonneg_right (show (1 : Int) ≤ g by omega) h0; omega
  · have := Int.mul_le_mul h h h0 (by omega); omega
/-- The distance of a kind, from the gaps. -/
def dk (k g0 g1 g2 g3 : Int) : Int :=
  if k = 1 then g0 + g1 + g2 + g3 else if k = 2 then max (max (max (max 0 g0) g1) g2) g3 else if k = 3 then g0 * g0 + g1 * g1 + g2 * g2 + g3 * g3 else if k = 4 then min g0 1 + min g1 1 + min g2 1 + min g3 1 else -1

theorem specDist_ok {k : Int} (hk : 1 ≤ k ∧ k ≤ 4) {a b c d x y z w : Int} (ha : Co a) (hb : Co b) (hc : Co c) (hd : Co d) (hx : Co x) (hy : Co y) (hz : Co z) (hw : Co w) :
    M.spec_dist k [a, b, c, d] [x, y, z, w] = some (dk k (gap a x) (gap b y) (gap c z) (gap d w)) := by
  have e : ∀ p q, Co p → Co q → M.spec_size (w64 (p - q)) = some (gap p q) := by
    intro p q hp hq
    unfold Co at hp hq
    unfold M.spec_size
    rw [w64_id (n := p - q) (by omega) (by omega), w64_id (n := 0 - (p - q)) (by omega) (by omega)]
    unfold gap
    congr 1; omega
  have t : ∀ g : Int, 0 ≤ g → M.spec_toInt (decide (0 < g)) = some (min g 1) := by
    intro g hg
    unfold M.spec_toInt
    by_cases h : 0 < g
    · simp [h]; omega
    · simp [h]; omega
  have ea := e a x ha hx
  have eb := e b y hb hy
  have ec := e c z hc hz
  have ed := e d w hd hw
  have h0 := gap_nonneg a x
  have h1 := gap_nonneg b y
  have h2 := gap_nonneg c z
  have h3 := gap_nonneg d w
  have h0' := gap_le ha hx
  have h1' := gap_le hb hy
  have h2' := gap_le hc hz
  have h3' := gap_le hd hw
  generalize gap a x = g0 at *
  generalize gap b y = g1 at *
  generalize gap c z = g2 at *
  generalize gap d w = g3 at *
  have s0 := sq_bounds h0 h0'
  have s1 := sq_bounds h1 h1'
  have s2 := sq_bounds h2 h2'
  have s3 := sq_bounds h3 h3'
  unfold M.spec_dist
  by_cases k1 : k = 1
  · subst k1
    have e0 : w64 (0 + g0) = g0 := by rw [w64_id (by omega) (by omega)]; omega
    have e1 : w64 (g0 + g1) = g0 + g1 := w64_id (by omega) (by omega)
    have e2 : w64 (g0 + g1 + g2) = g0 + g1 + g2 := w64_id (by omega) (by omega)
    have e3 : w64 (g0 + g1 + g2 + g3) = g0 + g1 + g2 + g3 := w64_id (by omega) (by omega)
    rw [loop4 (s1 := (g0, 1)) (s2 := (g0 + g1, 2)) (s3 := (g0 + g1 + g2, 3)) (s4 := (g0 + g1 + g2 + g3, 4)) (r := g0 + g1 + g2 + g3)]
    · rfl
    · simp only [l4, d04, gi0, i01, e0, ea, cond_true, Option.bind_some]; rfl
    · simp only [l4, d14, gi1, i12, e1, eb, cond_true, Option.bind_some]; rfl
    · simp only [l4, d24, gi2, i23, e2, ec, cond_true, Option.bind_some]; rfl
    · simp only [l4, d34, gi3, i34, e3, ed, cond_true, Option.bind_some]; rfl
    · simp [l4, d44]
  by_cases k2 : k = 2
  · subst k2
    rw [loop4 (s1 := (max 0 g0, 1)) (s2 := (max (max 0 g0) g1, 2)) (s3 := (max (max (max 0 g0) g1) g2, 3)) (s4 := (max (max (max (max 0 g0) g1) g2) g3, 4)) (r := max (max (max (max 0 g0) g1) g2) g3)]
    · rfl
    · simp only [l4, d04, gi0, i01, ea, cond_true, Option.bind_some]; rfl
    · simp only [l4, d14, gi1, i12, eb, cond_true, Option.bind_some]; rfl
    · simp only [l4, d24, gi2, i23, ec, cond_true, Option.bind_some]; rfl
    · simp only [l4, d34, gi3, i34, ed, cond_true, Option.bind_some]; rfl
    · simp [l4, d44]
  by_cases k3 : k = 3
  · subst k3
    have q0 : w64 (g0 * g0) = g0 * g0 := w64_id (by omega) (by omega)
    have q1 : w64 (g1 * g1) = g1 * g1 := w64_id (by omega) (by omega)
    have q2 : w64 (g2 * g2) = g2 * g2 := w64_id (by omega) (by omega)
    have q3 : w64 (g3 * g3) = g3 * g3 := w64_id (by omega) (by omega)
    have e0 : w64 (0 + g0 * g0) = g0 * g0 := by rw [w64_id (by omega) (by omega)]; omega
    have e1 : w64 (g0 * g0 + g1 * g1) = g0 * g0 + g1 * g1 := w64_id (by omega) (by omega)
    have e2 : w64 (g0 * g0 + g1 * g1 + g2 * g2) = g0 * g0 + g1 * g1 + g2 * g2 := w64_id (by omega) (by omega)
    have e3 : w64 (g0 * g0 + g1 * g1 + g2 * g2 + g3 * g3) = g0 * g0 + g1 * g1 + g2 * g2 + g3 * g3 := w64_id (by omega) (by omega)
    rw [loop4 (s1 := (g0 * g0, 1)) (s2 := (g0 * g0 + g1 * g1, 2)) (s3 := (g0 * g0 + g1 * g1 + g2 * g2, 3)) (s4 := (g0 * g0 + g1 * g1 + g2 * g2 + g3 * g3, 4)) (r := g0 * g0 + g1 * g1 + g2 * g2 + g3 * g3)]
    · rfl
    · simp only [l4, d04, gi0, i01, e0, q0, ea, cond_true, Option.bind_some]; rfl
    · simp only [l4, d14, gi1, i12, e1, q1, eb, cond_true, Option.bind_some]; rfl
    · simp only [l4, d24, gi2, i23, e2, q2, ec, cond_true, Option.bind_some]; rfl
    · simp only [l4, d34, gi3, i34, e3, q3, ed, cond_true, Option.bind_some]; rfl
    · simp [l4, d44]
  · have k4 : k = 4 := by omega
    subst k4
    have e0 : w64 (0 + min g0 1) = min g0 1 := by rw [w64_id (by omega) (by omega)]; omega
    have e1 : w64 (min g0 1 + min g1 1) = min g0 1 + min g1 1 := w64_id (by omega) (by omega)
    have e2 : w64 (min g0 1 + min g1 1 + min g2 1) = min g0 1 + min g1 1 + min g2 1 := w64_id (by omega) (by omega)
    have e3 : w64 (min g0 1 + min g1 1 + min g2 1 + min g3 1) = min g0 1 + min g1 1 + min g2 1 + min g3 1 := w64_id (by omega) (by omega)
    rw [loop4 (s1 := (min g0 1, 1)) (s2 := (min g0 1 + min g1 1, 2)) (s3 := (min g0 1 + min g1 1 + min g2 1, 3)) (s4 := (min g0 1 + min g1 1 + min g2 1 + min g3 1, 4)) (r := min g0 1 + min g1 1 + min g2 1 + min g3 1)]
    · rfl
    · simp only [l4, d04, gi0, i01, e0, ea, t g0 h0, cond_true, Option.bind_some]; simp only [show ((4 : Int) == 1) = false from rfl, show ((4 : Int) == 2) = false from rfl, show ((4 : Int) == 3) = false from rfl, cond_false, Option.bind_some, t g0 h0, e0]
    · simp only [l4, d14, gi1, i12, e1, eb, t g1 h1, cond_true, Option.bind_some]; simp only [show ((4 : Int) == 1) = false from rfl, show ((4 : Int) == 2) = false from rfl, show ((4 : Int) == 3) = false from rfl, cond_false, Option.bind_some, t g1 h1, e1]
    · simp only [l4, d24, gi2, i23, e2, ec, t g2 h2, cond_true, Option.bind_some]; simp only [show ((4 : Int) == 1) = false from rfl, show ((4 : Int) == 2) = false from rfl, show ((4 : Int) == 3) = false from rfl, cond_false, Option.bind_some, t g2 h2, e2]
    · simp only [l4, d34, gi3, i34, e3, ed, t g3 h3, cond_true, Option.bind_some]; simp only [show ((4 : Int) == 1) = false from rfl, show ((4 : Int) == 2) = false from rfl, show ((4 : Int) == 3) = false from rfl, cond_false, Option.bind_some, t g3 h3, e3]
    · simp [l4, d44]
end Go.Vs

namespace Go.Vs

/-- What Distance answers. -/
def dist (k : Int) (a b : List Int) : Int :=
  if isVec a = true ∧ isVec b = true then dk k (gap (a.getD 0 0) (b.getD 0 0)) (gap (a.getD 1 0) (b.getD 1 0)) (gap (a.getD 2 0) (b.getD 2 0)) (gap (a.getD 3 0) (b.getD 3 0)) else -1
theorem dist_vec {k : Int} {a b c d x y z w : Int} (ha : isVec [a, b, c, d] = true) (hb : isVec [x, y, z, w] = true) : dist k [a, b, c, d] [x, y, z, w] = dk k (gap a x) (gap b y) (gap c z) (gap d w) := by
  unfold dist; rw [if_pos ⟨ha, hb⟩]; rfl
theorem isVec_cut {v : List Int} (h : isVec v = true) : ∃ a b c d, v = [a, b, c, d] ∧ Co a ∧ Co b ∧ Co c ∧ Co d := isVec_four h

theorem equalInts_ok {a b : List Int} (ha : a.length < 2000000) : M.laws_equalInts a b = some (decide (a = b)) := by
  unfold M.laws_equalInts
  by_cases hl : a.length = b.length
  · have e : ((a.length : Int) != (b.length : Int)) = false := by simp; omega
    simp only [e, cond_false]
    rw [loop_all (xs := a.zip b) (P := fun p => p.1 == p.2) (r := false)]
    · by_cases h : a = b
      · subst h
        have : (a.zip a).all (fun p => p.1 == p.2) = true := by
          rw [List.all_eq_true]; intro p hp
          obtain ⟨i, hi, rfl⟩ := List.mem_iff_getElem.1 hp
          simp
        rw [if_pos this]; simp [selim]
      · have : ¬ (a.zip b).all (fun p => p.1 == p.2) = true := by
          intro hh; apply h
          apply List.ext_getElem hl
          intro i h1 h2
          rw [List.all_eq_true] at hh
          have := hh (a[i], b[i]) (List.mem_iff_getElem.2 ⟨i, by simp; omega, by simp⟩)
          simpa using this
        rw [if_neg this]; simp [selim, h]
    · intro i hi
      have hi1 : i < a.length := by simp at hi; omega
      have hi2 : i < b.length := by simp at hi; omega
      have e1 : decide ((i : Int) < (a.length : Int)) = true := by simpa using hi1
      have e2 : w64 ((i : Int) + 1) = (i : Int) + 1 := w64_id (by omega) (by omega)
      simp only [e1, cond_true, gidx_nat hi1, gidx_nat hi2, Option.bind_some, e2, List.getElem_zip]
      by_cases hc : a[i] = b[i]
      · simp [hc]
      · have hb : (a[i] == b[i]) = false := by simpa using hc
        have hb' : (a[i] != b[i]) = true := by simpa using hc
        simp [hb, hb']
    · have : (a.zip b).length = a.length := by simp; omega
      rw [this]; simp
  · have e : ((a.length : Int) != (b.length : Int)) = true := by simp; omega
    have : a ≠ b := fun h => hl (by rw [h])
    simp [e, this]

/-- Gaps of two vectors. -/
structure Gaps (g0 g1 g2 g3 : Int) : Prop where
  n0 : 0 ≤ g0
  n1 : 0 ≤ g1
  n2 : 0 ≤ g2
  n3 : 0 ≤ g3
  m0 : g0 ≤ 200
  m1 : g1 ≤ 200
  m2 : g2 ≤ 200
  m3 : g3 ≤ 200
theorem gaps_of {a b c d x y z w : Int} (c0 : Co a) (c1 : Co b) (c2 : Co c) (c3 : Co d) (e0 : Co x) (e1 : Co y) (e2 : Co z) (e3 : Co w) : Gaps (gap a x) (gap b y) (gap c z) (gap d w) :=
  ⟨gap_nonneg _ _, gap_nonneg _ _, gap_nonneg _ _, gap_nonneg _ _, gap_le c0 e0, gap_le c1 e1, gap_le c2 e2, gap_le c3 e3⟩
theorem dk_zero {k g0 g1 g2 g3 : Int} (h : Gaps g0 g1 g2 g3) (hk : 1 ≤ k ∧ k ≤ 4) : dk k g0 g1 g2 g3 = 0 ↔ g0 = 0 ∧ g1 = 0 ∧ g2 = 0 ∧ g3 = 0 := by
  obtain ⟨n0, n1, n2, n3, m0, m1, m2, m3⟩ := h
  have s0 := sq_bounds n0 m0
  have s1 := sq_bounds n1 m1
  have s2 := sq_bounds n2 m2
  have s3 := sq_bounds n3 m3
  by_cases k1 : k = 1
  · subst k1; simp only [dk, if_true]; omega
  by_cases k2 : k = 2
  · subst k2; rw [dk, if_neg (by omega), if_pos rfl]; omega
  by_cases k3 : k = 3
  · subst k3; rw [dk, if_neg (by omega), if_neg (by omega), if_pos rfl]
    constructor
    · intro e; omega
    · rintro ⟨rfl, rfl, rfl, rfl⟩; rfl
  · have k4 : k = 4 := by omega
    subst k4; rw [dk, if_neg (by omega), if_neg (by omega), if_neg (by omega), if_pos rfl]; omega

end Go.Vs

namespace Go.Vs

end Go.Vs

namespace Go.Vs

end Go.Vs

namespace Go.Vs

end Go.Vs

namespace Go.Vs

end Go.Vs

namespace Go.Vs

theorem toIntS_ok {a : List Int} (h : a.length ≤ 1048576) : M.laws_toIntS a = some a := by
  unfold M.laws_toIntS
  rw [gmake_ok (by omega) (by omega)]
  simp only [Option.bind_some, Int.toNat_natCast]
  have hloop := loop_run (R := List Int) (f := fun (s10 : (List Int) × (Int)) => (bif decide (s10.2 < (a.length : Int)) then
  (gidx a s10.2).bind fun x18 =>
  (gidx s10.1 s10.2).bind fun x23 =>
  some (.inl ((s10.1.set s10.2.toNat x18), w64 (s10.2 + 1)))
 else
  some (.inr s10.1))) (r := a) a.length (fun i => (a.take i ++ List.replicate (a.length - i) 0, (i : Int))) (by
    intro i hi
    have e1 : decide ((i : Int) < (a.length : Int)) = true := by simpa using hi
    have e2 : w64 ((i : Int) + 1) = ((i + 1 : Nat) : Int) := w64_id (by omega) (by omega)
    have hl : i < (a.take i ++ List.replicate (a.length - i) (0 : Int)).length := by simp; omega
    simp only [e1, cond_true, gidx_nat hi, gidx_nat hl, Option.bind_some, e2, Int.toNat_natCast, Option.some.injEq, Sum.inl.injEq, Prod.mk.injEq, and_true]
    rw [List.take_succ_eq_append_getElem hi]
    have hr : List.replicate (a.length - i) (0 : Int) = 0 :: List.replicate (a.length - (i + 1)) 0 := by
      rw [show a.length - i = (a.length - (i + 1)) + 1 by omega, List.replicate_succ]
    rw [hr, List.set_append_right _ _ (by simp; omega)]
    have : i - (a.take i).length = 0 := by simp; omega
    rw [this]; simp only [List.set_cons_zero, List.append_assoc, List.cons_append, List.nil_append]) (by
    have e1 : decide (((a.length : Nat) : Int) < (a.length : Int)) = false := by simp
    simp only [e1, cond_false, List.take_length, Nat.sub_self, List.replicate_zero, List.append_nil])
  simp only [List.take_zero, List.nil_append, Nat.sub_zero, Int.cast_ofNat_Int] at hloop
  rw [hloop]; rfl
theorem eqIntS_ok {a b : List Int} (ha : a.length < 2000000) : M.laws_eqIntS a b = some (decide (a = b)) := equalInts_ok ha

end Go.Vs

namespace Go.Vs

end Go.Vs

namespace Go.Vs

abbrev Item := Int × (List Int) × Int
/-- A valid item. -/
def isItem (x : Item) : Bool := (decide (1 ≤ x.1) && decide (x.1 ≤ 99)) && (isVec x.2.1 && (decide (0 ≤ x.2.2) && decide (x.2.2 ≤ 15)))
/-- Valid items, with ascending keys above p. -/
def okFrom : Int → List Item → Bool
  | _, [] => true
  | p, x :: l => (isItem x && decide (p < x.1)) && okFrom x.1 l
def okStore (l : List Item) : Bool := decide (l.length ≤ 16) && okFrom 0 l

theorem implItem_ok {x : Item} (h : x.2.1.length < 2000000) : M.impl_validItem (x.1, x.2.1, x.2.2) = some (isItem x) := by
  unfold M.impl_validItem M.impl_validKey M.impl_validTags isItem
  simp only [impl_valid x.2.1 h, Option.bind_some]
  by_cases h1 : 1 ≤ x.1
  · by_cases h2 : x.1 ≤ 99
    · by_cases h3 : isVec x.2.1 = true
      · by_cases h4 : 0 ≤ x.2.2
        · simp [h1, h2, h3, h4]
        · simp [h1, h2, h3, h4]
      · simp only [Bool.not_eq_true] at h3
        simp [h1, h2, h3]
    · simp [h1, h2]
  · simp [h1]
theorem specItem_ok {x : Item} (h : x.2.1.length < 2000000) : M.spec_validItem (x.1, x.2.1, x.2.2) = some (isItem x) := by
  unfold M.spec_validItem isItem
  simp only [spec_inR, spec_isVec x.2.1 h, Option.bind_some]
  cases (decide (1 ≤ x.1) && decide (x.1 ≤ 99)) <;> cases isVec x.2.1 <;> simp

theorem implStore_ok {l : List Item} (hb : ∀ x ∈ l, x.2.1.length < 2000000) : M.impl_ValidStore l = some (okStore l) := by
  unfold M.impl_ValidStore okStore
  by_cases hl : 16 < (l.length : Int)
  · have : ¬ l.length ≤ 16 := by omega
    simp [hl, this]
  have hl' : l.length ≤ 16 := by omega
  simp only [hl, decide_false, cond_false, hl', decide_true, Bool.true_and]
  have key : ∀ m k : Nat, ∀ p : Int, k + m = l.length → loopM (fun (s3 : (Int) × (Int)) => (bif decide (s3.2 < (l.length : Int)) then
  (gidx l s3.2).bind fun x8 =>
  Option.bind ((M.impl_validItem (x8.1, x8.2.1, x8.2.2)).bind fun r30 =>
  (bif !r30 then
  some true
 else
  some (decide (x8.1 ≤ s3.1)))) fun o29 =>
  (bif o29 then
  some (.inr (.inr false))
 else
  some (.inl (x8.1, w64 (s3.2 + 1))))
 else
  some (.inr (.inl ())))) (p, (k : Int)) = some (if okFrom p (l.drop k) then (.inl () : Unit ⊕ Bool) else .inr false) := by
    intro m
    induction m with
    | zero =>
      intro k p hk
      have : k = l.length := by omega
      subst this
      rw [loopM_eq]; simp [selim, okFrom]
    | succ m ih =>
      intro k p hk
      have hlt : k < l.length := by omega
      rw [loopM_eq, List.drop_eq_getElem_cons hlt]
      have e1 : decide ((k : Int) < (l.length : Int)) = true := by simpa using hlt
      have e2 : w64 ((k : Int) + 1) = ((k + 1 : Nat) : Int) := w64_id (by omega) (by omega)
      simp only [e1, cond_true, gidx_nat hlt, Option.bind_some, implItem_ok (hb _ (List.getElem_mem hlt)), e2, okFrom]
      by_cases h1 : isItem l[k] = true
      · by_cases h2 : p < l[k].1
        · have h2' : ¬ l[k].1 ≤ p := by omega
          simp only [h1, h2, h2', Bool.not_true, cond_false, Option.bind_some, decide_false, decide_true, Bool.and_self, Bool.true_and, selim]
          exact ih (k + 1) l[k].1 (by omega)
        · have h2' : l[k].1 ≤ p := by omega
          simp [h1, h2, h2', selim]
      · simp only [Bool.not_eq_true] at h1
        simp [h1, selim]
  have := key l.length 0 0 (by omega)
  simp only [Int.cast_ofNat_Int, List.drop_zero] at this
  rw [this]
  cases okFrom 0 l <;> rfl

/-- The key before a place. -/
def keyBefore (l : List Item) : Nat → Int
  | 0 => 0
  | k + 1 => (l.getD k (0, [], 0)).1
theorem specStore_ok {l : List Item} (hb : ∀ x ∈ l, x.2.1.length < 2000000) (hL : l.length < 2000000) : M.spec_validStore l = some (okStore l) := by
  unfold M.spec_validStore okStore
  have key : ∀ m k : Nat, k + m = l.length → loopM (fun (s2 : (Int)) => (bif decide (s2 < (l.length : Int)) then
  Option.bind ((gidx l s2).bind fun x8 =>
  (M.spec_validItem (x8.1, x8.2.1, x8.2.2)).bind fun r19 =>
  (bif !r19 then
  some true
 else
  (bif decide (0 < s2) then
  (gidx l s2).bind fun x24 =>
  (gidx l (w64 (s2 - 1))).bind fun x29 =>
  some (decide (x24.1 ≤ x29.1))
 else
  some false))) fun o7 =>
  (bif o7 then
  some (.inr (.inr false))
 else
  some (.inl (w64 (s2 + 1))))
 else
  some (.inr (.inl ())))) (k : Int) = some (if okFrom (keyBefore l k) (l.drop k) then (.inl () : Unit ⊕ Bool) else .inr false) := by
    intro m
    induction m with
    | zero =>
      intro k hk
      have : k = l.length := by omega
      subst this
      rw [loopM_eq]; simp [selim, okFrom]
    | succ m ih =>
      intro k hk
      have hlt : k < l.length := by omega
      rw [loopM_eq, List.drop_eq_getElem_cons hlt]
      have e1 : decide ((k : Int) < (l.length : Int)) = true := by simpa using hlt
      have e2 : w64 ((k : Int) + 1) = ((k + 1 : Nat) : Int) := w64_id (by omega) (by omega)
      have hnext : keyBefore l (k + 1) = l[k].1 := by simp [keyBefore, List.getD, hlt]
      have ih' := ih (k + 1) (by omega)
      rw [hnext] at ih'
      simp only [e1, cond_true, gidx_nat hlt, Option.bind_some, specItem_ok (hb _ (List.getElem_mem hlt)), e2, okFrom]
      by_cases h1 : isItem l[k] = true
      · simp only [h1, Bool.not_true, cond_false, Bool.true_and]
        match k, hlt with
        | 0, hlt =>
          have hpos : keyBefore l 0 < l[0].1 := by
            have : 1 ≤ l[0].1 := by
              unfold isItem at h1; simp at h1; exact h1.1.1
            show 0 < _; omega
          have e3 : decide ((0 : Int) < ((0 : Nat) : Int)) = false := rfl
          simp only [e3, cond_false, Option.bind_some, hpos, decide_true, Bool.true_and, selim]
          exact ih'
        | j + 1, hlt =>
          have e3 : decide ((0 : Int) < ((j + 1 : Nat) : Int)) = true := by simp
          have e4 : w64 (((j + 1 : Nat) : Int) - 1) = (j : Int) := by rw [w64_id (by omega) (by omega)]; omega
          have hj : j < l.length := by omega
          have hk : keyBefore l (j + 1) = l[j].1 := by simp [keyBefore, List.getD, hj]
          simp only [e3, cond_true, e4, gidx_nat hj, Option.bind_some, hk]
          by_cases h2 : l[j].1 < l[j + 1].1
          · have h2' : ¬ l[j + 1].1 ≤ l[j].1 := by omega
            simp only [h2, h2', decide_false, decide_true, cond_false, Bool.true_and, selim, Option.bind_some]
            exact ih'
          · have h2' : l[j + 1].1 ≤ l[j].1 := by omega
            simp [h2, h2', selim]
      · simp only [Bool.not_eq_true] at h1
        simp [h1, selim]
  have := key l.length 0 (by omega)
  simp only [Int.cast_ofNat_Int, List.drop_zero] at this
  rw [this]
  show _ = some (decide (l.length ≤ 16) && okFrom 0 l)
  have e : keyBefore l 0 = 0 := rfl
  rw [e]
  by_cases h16 : l.length ≤ 16
  · have : decide ((l.length : Int) ≤ 16) = true := by simp; omega
    cases okFrom 0 l <;> simp [selim, this, h16]
  · have : decide ((l.length : Int) ≤ 16) = false := by simp; omega
    cases okFrom 0 l <;> simp [selim, this, h16]
end Go.Vs

namespace Go.Vs

theorem szIntS_ok {a : List Int} {left : Int} (ha : a.length ≤ 9223372036854775807) (h0 : 0 ≤ left) (h1 : left ≤ 1048576) :
    ∃ s, M.laws_szIntS a left = some s ∧ (s < 0 ∨ (0 ≤ s ∧ s ≤ left ∧ a.length ≤ 1048576)) := by
  unfold M.laws_szIntS
  rw [w64_id (by omega) (by omega)]
  by_cases h : left - (a.length : Int) < 0
  · exact ⟨-1, by simp [h], .inl (by omega)⟩
  · exact ⟨left - a.length, by simp [h], .inr (by omega)⟩
theorem szItem_ok {x : Item} {left : Int} (ha : x.2.1.length ≤ 9223372036854775807) (h0 : 0 ≤ left) (h1 : left ≤ 1048576) :
    ∃ s, M.laws_szItem x left = some s ∧ (s < 0 ∨ (0 ≤ s ∧ s ≤ left ∧ x.2.1.length ≤ 1048576)) := by
  obtain ⟨s, e, h⟩ := szIntS_ok ha h0 h1
  unfold M.laws_szItem
  simp only [e, Option.bind_some]
  by_cases c : s < 0
  · exact ⟨-1, by simp [c], .inl (by omega)⟩
  · exact ⟨s, by simp [c], h⟩
theorem szItemS_ok {a : List Item} {left : Int} (ha : a.length ≤ 9223372036854775807) (hx : ∀ x ∈ a, x.2.1.length ≤ 9223372036854775807) (h0 : 0 ≤ left) (h1 : left ≤ 1048576) :
    ∃ s, M.laws_szItemS a left = some s ∧ (s < 0 ∨ (0 ≤ s ∧ a.length ≤ 1048576 ∧ ∀ x ∈ a, x.2.1.length ≤ 1048576)) := by
  unfold M.laws_szItemS
  rw [w64_id (by omega) (by omega)]
  by_cases h : left - (a.length : Int) < 0
  · exact ⟨-1, by simp [h], .inl (by omega)⟩
  simp only [h, decide_false, cond_false]
  have hl : a.length ≤ 1048576 := by omega
  have key : ∀ m k : Nat, ∀ l : Int, k + m = a.length → 0 ≤ l → l ≤ 1048576 → ∃ r : Int ⊕ Int, loopM (fun (s3 : (Int) × (Int)) => (bif decide (s3.2 < (a.length : Int)) then
  (gidx a s3.2).bind fun x8 =>
  (M.laws_szItem (x8.1, x8.2.1, x8.2.2) s3.1).bind fun r19 =>
  (bif decide (r19 < 0) then
  some (.inr (.inr (-1)))
 else
  some (.inl (r19, w64 (s3.2 + 1))))
 else
  some (.inr (.inl s3.1)))) (l, (k : Int)) = some r ∧ (r = .inr (-1) ∨ ∃ l', r = .inl l' ∧ 0 ≤ l' ∧ ∀ x ∈ a.drop k, x.2.1.length ≤ 1048576) := by
    intro m
    induction m with
    | zero =>
      intro k l hk hl0 _
      have : k = a.length := by omega
      subst this
      refine ⟨.inl l, ?_, .inr ⟨l, rfl, hl0, by simp⟩⟩
      rw [loopM_eq]; simp [selim]
    | succ m ih =>
      intro k l hk hl0 hl1
      have hlt : k < a.length := by omega
      have e1 : decide ((k : Int) < (a.length : Int)) = true := by simpa using hlt
      have e2 : w64 ((k : Int) + 1) = ((k + 1 : Nat) : Int) := w64_id (by omega) (by omega)
      obtain ⟨s, es, hs⟩ := szItem_ok (x := a[k]) (hx _ (List.getElem_mem hlt)) hl0 hl1
      have es' : M.laws_szItem (a[k].1, a[k].2.1, a[k].2.2) l = some s := es
      rw [loopM_eq]
      simp only [e1, cond_true, gidx_nat hlt, Option.bind_some, es', e2]
      rcases hs with hs | ⟨hs0, hs1, hs2⟩
      · exact ⟨.inr (-1), by simp [hs, selim], .inl rfl⟩
      · obtain ⟨r, hr, hr'⟩ := ih (k + 1) s (by omega) hs0 (by omega)
        refine ⟨r, ?_, ?_⟩
        · have : ¬ s < 0 := by omega
          simp only [this, decide_false, cond_false, selim, Option.bind_some]
          exact hr
        · rcases hr' with hr' | ⟨l', e, h0', hall⟩
          · exact .inl hr'
          · refine .inr ⟨l', e, h0', ?_⟩
            rw [List.drop_eq_getElem_cons hlt]
            intro x hx'
            rcases List.mem_cons.1 hx' with h | h
            · subst h; exact hs2
            · exact hall x h
  obtain ⟨r, hr, hr'⟩ := key a.length 0 (left - a.length) (by omega) (by omega) (by omega)
  simp only [Int.cast_ofNat_Int] at hr
  rw [hr]
  rcases hr' with rfl | ⟨l', rfl, h0', hall⟩
  · exact ⟨-1, rfl, .inl (by omega)⟩
  · exact ⟨l', rfl, .inr ⟨h0', hl, by simpa using hall⟩⟩

theorem eqItem_self {x : Item} (h : x.2.1.length < 2000000) : M.laws_eqItem (x.1, x.2.1, x.2.2) (x.1, x.2.1, x.2.2) = some true := by
  unfold M.laws_eqItem
  simp only [bne_self_eq_false, cond_false, eqIntS_ok h, decide_true, Bool.not_true, Option.bind_some]
theorem eqItemS_self {a : List Item} (h : a.length < 2000000) (hx : ∀ x ∈ a, x.2.1.length < 2000000) : M.laws_eqItemS a a = some true := by
  unfold M.laws_eqItemS
  simp only [bne_self_eq_false, cond_false]
  rw [loop_all (xs := a) (P := fun _ => true) (r := false)]
  · simp [selim]
  · intro i hi
    have e1 : decide ((i : Int) < (a.length : Int)) = true := by simpa using hi
    have e2 : w64 ((i : Int) + 1) = (i : Int) + 1 := w64_id (by omega) (by omega)
    simp only [e1, cond_true, gidx_nat hi, Option.bind_some, eqItem_self (hx _ (List.getElem_mem hi)), Bool.not_true, cond_false, e2, if_true]
  · simp

end Go.Vs

namespace Go.Vs

theorem w64_succ {i : Nat} (h : i < 4000000000000000000) : w64 ((i : Int) + 1) = ((i + 1 : Nat) : Int) := w64_id (by omega) (by omega)

section
variable {α S T R U : Type} {xs : List α}
theorem loop_fold (st : S → Int → T) (g : S → α → S) (Inv : Nat → S → Prop) {fin : S → R} {f : T → Option (T ⊕ R)} {s0 : S} (h0 : Inv 0 s0)
    (hs : ∀ s i (h : i < xs.length), Inv i s → f (st s (i : Int)) = some (.inl (st (g s xs[i]) ((i + 1 : Nat) : Int))) ∧ Inv (i + 1) (g s xs[i]))
    (he : ∀ s, Inv xs.length s → f (st s (xs.length : Int)) = some (.inr (fin s))) :
    loopM f (st s0 0) = some (fin (xs.foldl g s0)) ∧ Inv xs.length (xs.foldl g s0) := by
  have key : ∀ m k : Nat, ∀ s, k + m = xs.length → Inv k s → loopM f (st s (k : Int)) = some (fin ((xs.drop k).foldl g s)) ∧ Inv xs.length ((xs.drop k).foldl g s) := by
    intro m
    induction m with
    | zero =>
      intro k s hk hi
      have : k = xs.length := by omega
      subst this
      rw [loopM_eq, he s hi]; simpa [selim] using hi
    | succ m ih =>
      intro k s hk hi
      have hlt : k < xs.length := by omega
      obtain ⟨h1, h2⟩ := hs s k hlt hi
      rw [loopM_eq, h1, List.drop_eq_getElem_cons hlt]
      exact ih (k + 1) _ (by omega) h2
  have := key xs.length 0 s0 (by omega) h0
  simpa using this
/-- A loop in front of something. -/
theorem fold_bind (st : S → Int → T) (g : S → α → S) (Inv : Nat → S → Prop) (fin : S → R) {f : T → Option (T ⊕ R)} {s0 : S} {k : R → Option U} {r : Option U} (h0 : Inv 0 s0)
    (hs : ∀ s i (h : i < xs.length), Inv i s → f (st s (i : Int)) = some (.inl (st (g s xs[i]) ((i + 1 : Nat) : Int))) ∧ Inv (i + 1) (g s xs[i]))
    (he : ∀ s, Inv xs.length s → f (st s (xs.length : Int)) = some (.inr (fin s)))
    (hk : Inv xs.length (xs.foldl g s0) → k (fin (xs.foldl g s0)) = r) : (loopM f (st s0 0)).bind k = r := by
  obtain ⟨h1, h2⟩ := loop_fold st g Inv (fin := fin) h0 hs he
  rw [h1]; exact hk h2
/-- A loop that comes to r, by what holds at each round and what gets less. -/
theorem loop_to {f : T → Option (T ⊕ R)} (J : T → Prop) (μ : T → Nat) {r : R} (step : ∀ s, J s → (∃ s', f s = some (.inl s') ∧ J s' ∧ μ s' < μ s) ∨ f s = some (.inr r)) {s : T} (h : J s) : loopM f s = some r := by
  obtain ⟨r', h1, rfl⟩ := loopM_ind (f := f) J μ (fun x => x = r) (fun s hs => (step s hs).imp id (fun h => ⟨r, h, rfl⟩)) s h
  exact h1
/-- The first element that is so. -/
theorem loop_first (p : α → Bool) (r : Nat → R) {f : Int → Option (Int ⊕ (Unit ⊕ R))}
    (hs : ∀ i (h : i < xs.length), f (i : Int) = some (if p xs[i] = true then .inr (.inr (r i)) else .inl ((i + 1 : Nat) : Int))) (he : f (xs.length : Int) = some (.inr (.inl ()))) :
    loopM f 0 = some (match xs.findIdx? p with | some i => .inr (r i) | none => .inl ()) := by
  have key : ∀ m k : Nat, k + m = xs.length → loopM f (k : Int) = some (match (xs.drop k).findIdx? p with | some i => .inr (r (k + i)) | none => .inl ()) := by
    intro m
    induction m with
    | zero =>
      intro k hk
      have : k = xs.length := by omega
      subst this
      rw [loopM_eq, he]; simp [selim]
    | succ m ih =>
      intro k hk
      have hlt : k < xs.length := by omega
      rw [loopM_eq, hs k hlt, List.drop_eq_getElem_cons hlt, List.findIdx?_cons]
      by_cases hp : p xs[k] = true
      · simp [hp, selim]
      · simp only [hp, if_false, selim, Option.bind_some, Bool.false_eq_true]
        rw [ih (k + 1) (by omega)]
        cases h : List.findIdx? p (List.drop (k + 1) xs) with
        | none => rfl
        | some i => simp only [Option.map_some]; rw [show k + 1 + i = k + (i + 1) by omega]
  have := key xs.length 0 (by omega)
  simpa using this
end

/-! ## Valid stores as lists that ascend -/
theorem okFrom_iff {l : List Item} : ∀ {p : Int}, okFrom p l = true ↔ (∀ x ∈ l, isItem x = true ∧ p < x.1) ∧ l.Pairwise (fun x y => x.1 < y.1) := by
  induction l with
  | nil => intro p; simp [okFrom]
  | cons x l ih =>
    intro p
    simp only [okFrom, Bool.and_eq_true, decide_eq_true_eq, ih, List.pairwise_cons, List.mem_cons, forall_eq_or_imp]
    constructor
    · rintro ⟨⟨h1, h2⟩, h3, h4⟩
      exact ⟨⟨⟨h1, h2⟩, fun y hy => ⟨(h3 y hy).1, by have := (h3 y hy).2; omega⟩⟩, fun y hy => (h3 y hy).2, h4⟩
    · rintro ⟨⟨⟨h1, h2⟩, h3⟩, h4, h5⟩
      exact ⟨⟨h1, h2⟩, fun y hy => ⟨(h3 y hy).1, h4 y hy⟩, h5⟩
theorem isItem_iff {x : Item} : isItem x = true ↔ (1 ≤ x.1 ∧ x.1 ≤ 99) ∧ isVec x.2.1 = true ∧ 0 ≤ x.2.2 ∧ x.2.2 ≤ 15 := by
  unfold isItem; simp only [Bool.and_eq_true, decide_eq_true_eq]
theorem okStore_iff {l : List Item} : okStore l = true ↔ l.length ≤ 16 ∧ (∀ x ∈ l, isItem x = true) ∧ l.Pairwise (fun x y => x.1 < y.1) := by
  unfold okStore
  simp only [Bool.and_eq_true, decide_eq_true_eq, okFrom_iff]
  constructor
  · rintro ⟨h1, h2, h3⟩; exact ⟨h1, fun x hx => (h2 x hx).1, h3⟩
  · rintro ⟨h1, h2, h3⟩; exact ⟨h1, fun x hx => ⟨h2 x hx, by have := (isItem_iff.1 (h2 x hx)).1.1; omega⟩, h3⟩
theorem isItem_len {x : Item} (h : isItem x = true) : x.2.1.length = 4 := (isVec_iff.1 (isItem_iff.1 h).2.1).1

/-- A list of items that is small enough to be looked at. -/
def SmallS (l : List Item) : Prop := l.length ≤ 1048576 ∧ ∀ x ∈ l, x.2.1.length ≤ 1048576
theorem SmallS.hb {l : List Item} (h : SmallS l) : ∀ x ∈ l, x.2.1.length < 2000000 := fun x hx => by have := h.2 x hx; omega
theorem SmallS.hL {l : List Item} (h : SmallS l) : l.length < 2000000 := by have := h.1; omega
theorem SmallS.impl {l : List Item} (h : SmallS l) : M.impl_ValidStore l = some (okStore l) := implStore_ok h.hb
theorem SmallS.specv {l : List Item} (h : SmallS l) : M.spec_validStore l = some (okStore l) := specStore_ok h.hb h.hL
/-! ## Putting -/
def putS (l : List Item) (x : Item) : List Item := l.filter (fun y => decide (y.1 < x.1)) ++ x :: l.filter (fun y => decide (x.1 < y.1))
theorem copyItem_spec {x : Item} (h : x.2.1.length ≤ 1000000) : M.spec_copyItem (x.1, x.2.1, x.2.2) = some x := by
  unfold M.spec_copyItem; simp only [copy_ok h, Option.bind_some]
def putItem (l : List Item) (x : Item) : List Item × Bool := if okStore l = true ∧ isItem x = true ∧ (putS l x).length ≤ 16 then (putS l x, true) else ([], false)
/-! ## Draws -/
/-- An item that may be drawn. -/
def NearI (x : Item) : Prop := (0 ≤ x.1 ∧ x.1 ≤ 100) ∧ Near x.2.1 ∧ -1 ≤ x.2.2 ∧ x.2.2 ≤ 16
end Go.Vs

namespace Go.Vs

theorem wk_i64 (n : Int) : wk .i64 n = w64 n := rfl
theorem wk_u64 {n : Int} (h0 : 0 ≤ n) (h : n < 18446744073709551616) : wk .u64 n = n := by
  simp only [wk, Go.IntKind.wrap, Go.IntKind.bits, Go.IntKind.signed, Bool.false_and]
  have e1 : ((2 : Int) ^ (64 : Nat)) = 18446744073709551616 := by decide
  rw [e1]
  simp; omega
theorem mid_ok {i j : Nat} (hi : i ≤ j) (hj : j < 1000000000) : wk .i64 (gshr .u64 (wk .u64 (w64 ((i : Int) + (j : Int)))) 1) = (((i + j) / 2 : Nat) : Int) := by
  rw [w64_id (by omega) (by omega), wk_u64 (by omega) (by omega), wk_i64]
  have : gshr .u64 ((i : Int) + (j : Int)) 1 = ((i + j) / 2 : Nat) := by
    unfold gshr
    have e : (2 : Int) ^ (min (1 : Int).toNat (Go.IntKind.bits .u64)) = 2 := by decide
    rw [e, Int.fdiv_eq_ediv_of_nonneg _ (by omega)]
    omega
  rw [this, w64_nat (by omega)]
def cmpI (x y : Int) : Int := if x < y then -1 else if y < x then 1 else 0
theorem compare_ok (x y : Int) : M.cmp_Compare_int x y = some (cmpI x y) := by
  unfold M.cmp_Compare_int M.cmp_isNaN_int cmpI
  simp only [bne_self_eq_false, Option.bind_some, cond_false]
  by_cases h1 : x < y
  · simp [h1]
  · by_cases h2 : y < x <;> simp [h1, h2]
theorem place1_ok (x : Item) (k : Int) : M.impl_placeOf_1 (x.1, x.2.1, x.2.2) k = some (cmpI x.1 k) := by
  unfold M.impl_placeOf_1; simp only [compare_ok, Option.bind_some]
theorem cmpI_neg {x y : Int} : cmpI x y < 0 ↔ x < y := by unfold cmpI; split <;> (try split) <;> omega
theorem cmpI_zero {x y : Int} : cmpI x y = 0 ↔ x = y := by unfold cmpI; split <;> (try split) <;> omega
/-- Where a key is, or would be. -/
def placeS (l : List Item) (k : Int) : Nat := l.countP fun x => decide (x.1 < k)
theorem place_lt {l : List Item} {k : Int} (hp : l.Pairwise (fun x y => x.1 < y.1)) {i : Nat} (h : i < l.length) : i < placeS l k ↔ l[i].1 < k := by
  induction l generalizing i with
  | nil => simp at h
  | cons x l ih =>
    rw [List.pairwise_cons] at hp
    unfold placeS at ih ⊢
    rw [List.countP_cons]
    cases i with
    | zero =>
      by_cases hx : x.1 < k
      · simp [hx]
      · have : l.countP (fun x => decide (x.1 < k)) = 0 := by
          rw [List.countP_eq_zero]; intro y hy; have := hp.1 y hy; simp; omega
        simp only [this, hx, decide_false, List.getElem_cons_zero]; simp
    | succ i =>
      simp only [List.length_cons] at h
      have := ih hp.2 (i := i) (by omega)
      simp only [List.getElem_cons_succ]
      by_cases hx : x.1 < k
      · simp only [hx, decide_true, if_true]; rw [← this]; omega
      · have h0 : l.countP (fun x => decide (x.1 < k)) = 0 := by
          rw [List.countP_eq_zero]; intro y hy; have := hp.1 y hy; simp; omega
        rw [h0] at this ⊢
        have hy := hp.1 l[i] (List.getElem_mem _)
        simp only [hx, decide_false]; constructor
        · intro hh; simp at hh
        · intro hh; omega
theorem placeS_le {l : List Item} {k : Int} : placeS l k ≤ l.length := List.countP_le_length
theorem search_ok {l : List Item} {k : Int} (hp : l.Pairwise (fun x y => x.1 < y.1)) (hl : l.length < 1000000) :
    M.slices_BinarySearchFunc_impl_Item_impl_Item_int__impl_placeOf_1 l k = some ((placeS l k : Int), l.any fun x => x.1 == k) := by
  unfold M.slices_BinarySearchFunc_impl_Item_impl_Item_int__impl_placeOf_1
  have hk := loop_to (f := fun (s2 : (Int) × (Int)) => (bif decide (s2.1 < s2.2) then
  (gidx l (wk .i64 (gshr .u64 (wk .u64 (w64 (s2.1 + s2.2))) 1))).bind fun x5 =>
  (M.impl_placeOf_1 (x5.1, x5.2.1, x5.2.2) k).bind fun r15 =>
  (bif decide (r15 < 0) then
  some (.inl (w64 ((wk .i64 (gshr .u64 (wk .u64 (w64 (s2.1 + s2.2))) 1)) + 1), s2.2))
 else
  some (.inl (s2.1, wk .i64 (gshr .u64 (wk .u64 (w64 (s2.1 + s2.2))) 1))))
 else
  some (.inr s2.1))) (fun s => ∃ i j : Nat, s = ((i : Int), (j : Int)) ∧ i ≤ j ∧ j ≤ l.length ∧ i ≤ placeS l k ∧ placeS l k ≤ j) (fun s => (s.2 - s.1).toNat) (r := (placeS l k : Int)) (by
    rintro _ ⟨i, j, rfl, hij, hjl, h1, h2⟩
    by_cases hlt : i < j
    · have e1 : decide ((i : Int) < (j : Int)) = true := decide_eq_true (by omega)
      have hmid : (i + j) / 2 < l.length := by omega
      simp only [e1, cond_true, mid_ok hij (by omega), gidx_nat hmid, Option.bind_some, place1_ok]
      have hpl := place_lt (k := k) hp hmid
      by_cases hc : l[(i + j) / 2].1 < k
      · have e2 : decide (cmpI l[(i + j) / 2].1 k < 0) = true := decide_eq_true (cmpI_neg.2 hc)
        simp only [e2, cond_true, w64_succ (i := (i + j) / 2) (by omega)]
        exact .inl ⟨_, rfl, ⟨_, _, rfl, by omega, hjl, by have := hpl.2 hc; omega, h2⟩, by simp only; omega⟩
      · have e2 : decide (cmpI l[(i + j) / 2].1 k < 0) = false := decide_eq_false (fun h => hc (cmpI_neg.1 h))
        simp only [e2, cond_false]
        exact .inl ⟨_, rfl, ⟨_, _, rfl, by omega, by omega, h1, Nat.le_of_not_lt fun h => hc (hpl.1 h)⟩, by simp only; omega⟩
    · have : i = placeS l k := by omega
      have e1 : decide ((i : Int) < (j : Int)) = false := decide_eq_false (by omega)
      refine .inr ?_
      simp only [e1, cond_false]; rw [this])
    (s := (0, (l.length : Int))) ⟨0, l.length, rfl, by omega, Nat.le_refl _, by omega, placeS_le⟩
  rw [hk]
  simp only [Option.bind_some]
  by_cases hlt : placeS l k < l.length
  · have e1 : decide ((placeS l k : Int) < (l.length : Int)) = true := decide_eq_true (by omega)
    simp only [e1, cond_true, gidx_nat hlt, Option.bind_some, place1_ok]
    congr 2
    have hpl := place_lt (k := k) hp hlt
    have hge : k ≤ l[placeS l k].1 := by
      refine Int.not_lt.1 fun h => ?_
      have := hpl.2 h; omega
    rw [Bool.eq_iff_iff, beq_iff_eq, cmpI_zero, List.any_eq_true]
    constructor
    · intro h; exact ⟨_, List.getElem_mem hlt, by simpa using h⟩
    · rintro ⟨x, hx, hxk⟩
      obtain ⟨i, hi, rfl⟩ := List.getElem_of_mem hx
      have hik : l[i].1 = k := by simpa using hxk
      have hle : ¬ i < placeS l k := fun h => by have := (place_lt hp hi).1 h; omega
      rcases Nat.lt_or_ge (placeS l k) i with h | h
      · have := List.pairwise_iff_getElem.1 hp _ _ hlt hi h; omega
      · have : i = placeS l k := by omega
        subst this; exact hik
  · have e1 : decide ((placeS l k : Int) < (l.length : Int)) = false := decide_eq_false (by omega)
    simp only [e1, cond_false]
    congr 2
    symm
    rw [List.any_eq_false]
    intro x hx hxk
    obtain ⟨i, hi, rfl⟩ := List.getElem_of_mem hx
    have hik : l[i].1 = k := by simpa using hxk
    have := (place_lt (k := k) hp hi).1 (by omega); omega
theorem placeOf_ok {l : List Item} {k : Int} (h : okStore l = true) : M.impl_placeOf l k = some ((placeS l k : Int), l.any fun x => x.1 == k) := by
  obtain ⟨h1, _, h3⟩ := okStore_iff.1 h
  unfold M.impl_placeOf
  rw [search_ok h3 (by omega)]; rfl
theorem clone_ok {v : List Int} (h : v.length ≤ 1048576) : M.slices_Clone_int_int v = some v := by
  unfold M.slices_Clone_int_int; rw [gapp_ok (by simp; omega)]; rfl
theorem implCopy_ok {x : Item} (h : x.2.1.length ≤ 1048576) : M.impl_copyItem (x.1, x.2.1, x.2.2) = some x := by
  unfold M.impl_copyItem; simp only [clone_ok h, Option.bind_some]
theorem keyAt_ok {l : List Item} {k : Int} (hl : l.length < 2000000) : M.spec_keyAt l k = some (match l.findIdx? (fun x => x.1 == k) with | some i => (i : Int) | none => -1) := by
  unfold M.spec_keyAt
  rw [loop_first (xs := l) (fun x => x.1 == k) (fun i => (i : Int))]
  · cases l.findIdx? (fun x => x.1 == k) <;> rfl
  · intro i h
    have e1 : decide ((i : Int) < (l.length : Int)) = true := decide_eq_true (by omega)
    simp only [e1, cond_true, gidx_nat h, Option.bind_some, w64_succ (i := i) (by omega)]
    cases l[i].1 == k <;> rfl
  · simp
def zItem : Item := (0, [], 0)
theorem bind_id {α : Type} (o : Option α) : o.bind (fun b => some b) = o := by cases o <;> rfl
end Go.Vs

namespace Go.Vs

section
variable {α S T R U : Type} {xs : List α}
end

theorem isItem_vec {x : Item} (h : isItem x = true) : isVec x.2.1 = true := (isItem_iff.1 h).2.1

end Go.Vs

namespace Go.Vs

theorem foldl_filterMap {α β : Type} (p : α → Bool) (g : α → β) (l : List α) : ∀ s : List β, l.foldl (fun s x => if p x = true then s ++ [g x] else s) s = s ++ (l.filter p).map g := by
  induction l with
  | nil => intro s; simp
  | cons x l ih =>
    intro s
    rw [List.foldl_cons, ih, List.filter_cons]
    by_cases h : p x = true <;> simp [h]
/-! ## InBox -/
end Go.Vs

namespace Go.Vs

/-- A kind of distances that exists. -/
def isKind (k : Int) : Bool := decide (1 ≤ k) && decide (k ≤ 4)
theorem isKind_iff {k : Int} : isKind k = true ↔ 1 ≤ k ∧ k ≤ 4 := by unfold isKind; simp
theorem specDist_vec {k : Int} {a b : List Int} (hk : isKind k = true) (ha : isVec a = true) (hb : isVec b = true) : M.spec_dist k a b = some (dist k a b) := by
  obtain ⟨x0, x1, x2, x3, rfl, c0, c1, c2, c3⟩ := isVec_cut ha
  obtain ⟨y0, y1, y2, y3, rfl, e0, e1, e2, e3⟩ := isVec_cut hb
  rw [dist_vec ha hb]
  exact specDist_ok (isKind_iff.1 hk) c0 c1 c2 c3 e0 e1 e2 e3
end Go.Vs

namespace Go.Vs

def dropS (l : List Item) (k : Int) : List Item := l.filter (fun x => x.1 != k)
def dropItem (l : List Item) (k : Int) : List Item × Bool := if okStore l = true ∧ (l.any fun x => x.1 == k) = true then (dropS l k, true) else ([], false)
/-! ## What is drawn -/
theorem NearI.le {x : Item} (h : NearI x) : x.2.1.length ≤ 1048576 := by have := h.2.1.1; omega
theorem find_key0 {l : List Item} {x : Item} (hp : l.Pairwise (fun x y => x.1 < y.1)) (hx : x ∈ l) : l.find? (fun y => y.1 == x.1) = some x := by
  obtain ⟨i, hi, rfl⟩ := List.getElem_of_mem hx
  rw [List.find?_eq_some_iff_getElem]
  refine ⟨by simp, i, hi, rfl, fun j hj => ?_⟩
  have := List.pairwise_iff_getElem.1 hp _ _ (by omega) hi hj
  simp; omega
section
variable {code : List UInt8}
end
end Go.Vs

namespace Go.Vs

end Go.Vs

namespace Go.Vs

/-- k, k + 1, .. -/
def upFrom (k : Int) (n : Nat) : List Int := (List.range n).map fun i : Nat => k + (i : Int)
theorem upFrom_len {k : Int} {n : Nat} : (upFrom k n).length = n := by simp [upFrom]
theorem upFrom_get {k : Int} {n i : Nat} (h : i < (upFrom k n).length) : (upFrom k n)[i] = k + (i : Int) := by simp [upFrom]
theorem markIntS_ok {a : List Int} {k : Int} (ha : a.length < 2000000) (h0 : 0 ≤ k) (h1 : k ≤ 2000000000000000) : M.laws_markIntS a k = some (k + (a.length : Int), upFrom k a.length) := by
  unfold M.laws_markIntS
  have hloop := loop_run (R := List Int × Int) (f := fun (s2 : (List Int) × (Int) × (Int)) => (bif decide (s2.2.2 < (s2.1.length : Int)) then
  (gidx s2.1 s2.2.2).bind fun x6 =>
  some (.inl ((s2.1.set s2.2.2.toNat s2.2.1), w64 (s2.2.1 + 1), w64 (s2.2.2 + 1)))
 else
  some (.inr (s2.1, s2.2.1)))) (r := (upFrom k a.length, k + (a.length : Int))) a.length (fun i => (upFrom k i ++ a.drop i, k + (i : Int), (i : Int))) (by
    intro i hi
    have hl : (upFrom k i ++ a.drop i).length = a.length := by rw [List.length_append, upFrom_len, List.length_drop]; omega
    have e1 : decide ((i : Int) < ((upFrom k i ++ a.drop i).length : Int)) = true := decide_eq_true (by omega)
    have e2 : w64 ((i : Int) + 1) = ((i + 1 : Nat) : Int) := w64_id (by omega) (by omega)
    have e3 : w64 (k + (i : Int) + 1) = k + ((i + 1 : Nat) : Int) := by rw [w64_id (by omega) (by omega)]; omega
    have hl' : i < (upFrom k i ++ a.drop i).length := by omega
    simp only [e1, cond_true, gidx_nat hl', Option.bind_some, e2, e3, Int.toNat_natCast, Option.some.injEq, Sum.inl.injEq, Prod.mk.injEq, and_true]
    rw [List.set_append_right _ _ (by rw [upFrom_len]; omega), upFrom_len, Nat.sub_self, List.drop_eq_getElem_cons hi, List.set_cons_zero]
    simp [upFrom, List.range_succ]) (by
    have e1 : decide (((a.length : Nat) : Int) < ((upFrom k a.length ++ a.drop a.length).length : Int)) = false := decide_eq_false (by rw [List.length_append, upFrom_len]; simp)
    simp only [List.drop_length, List.append_nil] at e1 ⊢
    simp only [e1, cond_false])
  simp only [upFrom, List.range_zero, List.map_nil, List.nil_append, List.drop_zero, Int.cast_ofNat_Int, Int.add_zero] at hloop
  rw [hloop]; rfl
theorem heldIntS_ok {n : Nat} {k : Int} (ha : n < 2000000) (h0 : 0 ≤ k) (h1 : k ≤ 2000000000000000) : M.laws_heldIntS (upFrom k n) k = some (k + (n : Int)) := by
  unfold M.laws_heldIntS
  have hloop := loop_run (R := Int ⊕ Int) (f := fun (s2 : (Int) × (Int)) => (bif decide (s2.2 < ((upFrom k n).length : Int)) then
  (gidx (upFrom k n) s2.2).bind fun x7 =>
  (bif x7 != s2.1 then
  some (.inr (.inr (-1)))
 else
  some (.inl (w64 (s2.1 + 1), w64 (s2.2 + 1))))
 else
  some (.inr (.inl s2.1)))) (r := .inl (k + (n : Int))) n (fun i => (k + (i : Int), (i : Int))) (by
    intro i hi
    have hl : i < (upFrom k n).length := by rw [upFrom_len]; exact hi
    have e1 : decide ((i : Int) < ((upFrom k n).length : Int)) = true := decide_eq_true (by omega)
    have e2 : w64 ((i : Int) + 1) = ((i + 1 : Nat) : Int) := w64_id (by omega) (by omega)
    have e3 : w64 (k + (i : Int) + 1) = k + ((i + 1 : Nat) : Int) := by rw [w64_id (by omega) (by omega)]; omega
    simp only [e1, cond_true, gidx_nat hl, upFrom_get, Option.bind_some, e2, e3, bne_self_eq_false, cond_false]) (by
    have e1 : decide ((n : Int) < ((upFrom k n).length : Int)) = false := decide_eq_false (by rw [upFrom_len]; omega)
    simp only [e1, cond_false])
  simp only [Int.cast_ofNat_Int, Int.add_zero] at hloop
  rw [hloop]; rfl
end Go.Vs

namespace Go.Vs

theorem dItemS_ok {a : List Item} (h : a.length ≤ 1048576) (hx : ∀ x ∈ a, x.2.1.length ≤ 1048576) : M.dItemS a = some a := by
  unfold M.dItemS
  rw [if_pos ⟨by omega, fun x hx' => toIntS_ok (hx x hx')⟩]
theorem dmarkItemS_ok : ∀ (a : List Item) (k : Int), (∀ x ∈ a, x.2.1.length ≤ 1048576) → 0 ≤ k → k + a.length * 1048578 ≤ 1999999999999990 → ∃ r, M.dmarkItemS a k = some r ∧ k ≤ r ∧ r ≤ k + a.length * 1048578
  | [], k, _, _, _ => ⟨k, rfl, Int.le_refl _, by simp⟩
  | x :: a, k, hx, h0, h1 => by
    have hl := hx x (by simp)
    have h2 : ((x :: a).length : Int) = a.length + 1 := by simp
    rw [h2] at h1
    have e1 : w64 (k + 1) = k + 1 := w64_id (by omega) (by omega)
    have hm := markIntS_ok (a := x.2.1) (k := k + 1) (by omega) (by omega) (by omega)
    have e2 : w64 (k + 1 + (x.2.1.length : Int) + 1) = k + 1 + (x.2.1.length : Int) + 1 := w64_id (by omega) (by omega)
    obtain ⟨r, hr, g1, g2⟩ := dmarkItemS_ok a (k + 1 + (x.2.1.length : Int) + 1) (fun y hy => hx y (by simp [hy])) (by omega) (by omega)
    refine ⟨r, ?_, by omega, by rw [h2]; omega⟩
    simp only [M.dmarkItemS, e1, hm, Option.bind_some, e2, hr]
theorem markItemD_at {a : List Item} {k : Int} (h : a.length ≤ 1048576) (hx : ∀ x ∈ a, x.2.1.length ≤ 1048576) (h0 : 0 ≤ k) (h1 : k ≤ 100000000000000) : ∃ r, M.markItemD a k = some r ∧ k ≤ r ∧ r ≤ k + 1100000000000 := by
  obtain ⟨r, hr, h1, h2⟩ := dmarkItemS_ok a k hx (by omega) (by omega)
  refine ⟨r, ?_, h1, by omega⟩
  unfold M.markItemD
  rw [if_pos (by omega), hr]
end Go.Vs

namespace Go.Vs

noncomputable def G.sift {α : Type} (cmp : α → α → Option Int) (data_0 : List α) (lo_1 : Int) (hi_2 : Int) (first_3 : Int) : Option ((List α)) :=
  Option.bind (loopM (fun (s2 : (List α) × (Int)) => (bif decide (hi_2 ≤ (w64 ((w64 (2 * s2.2)) + 1))) then
  some (.inr (.inl s2.1))
 else
  Option.bind ((bif decide ((w64 ((w64 ((w64 (2 * s2.2)) + 1)) + 1)) < hi_2) then
  (gidx s2.1 (w64 (first_3 + (w64 ((w64 (2 * s2.2)) + 1))))).bind fun x8 =>
  (gidx s2.1 (w64 ((w64 (first_3 + (w64 ((w64 (2 * s2.2)) + 1)))) + 1))).bind fun x15 =>
  (cmp x8 x15).bind fun r23 =>
  some (decide (r23 < 0))
 else
  some false)) fun o6 =>
  Option.bind ((bif o6 then
  some (w64 ((w64 ((w64 (2 * s2.2)) + 1)) + 1))
 else
  some (w64 ((w64 (2 * s2.2)) + 1)))) fun o29 =>
  (gidx s2.1 (w64 (first_3 + s2.2))).bind fun x32 =>
  (gidx s2.1 (w64 (first_3 + o29))).bind fun x39 =>
  (cmp x32 x39).bind fun r47 =>
  (bif !(decide (r47 < 0)) then
  some (.inr (.inr s2.1))
 else
  (gidx s2.1 (w64 (first_3 + o29))).bind fun x52 =>
  (gidx s2.1 (w64 (first_3 + s2.2))).bind fun x59 =>
  (gidx s2.1 (w64 (first_3 + s2.2))).bind fun x66 =>
  (gidx (s2.1.set (w64 (first_3 + s2.2)).toNat x52) (w64 (first_3 + o29))).bind fun x72 =>
  some (.inl (((s2.1.set (w64 (first_3 + s2.2)).toNat x52).set (w64 (first_3 + o29)).toNat x59), o29))))) (data_0, lo_1)) (selim (fun t78 => some t78)
   (fun t81 => some t81))

noncomputable def G.heap {α : Type} (cmp : α → α → Option Int) (data_0 : List α) (a_1 : Int) (b_2 : Int) : Option ((List α)) :=
  Option.bind (loopM (fun (s2 : (List α) × (Int)) => (bif decide (0 ≤ s2.2) then
  (G.sift cmp s2.1 s2.2 (w64 (b_2 - a_1)) a_1).bind fun r6 =>
  some (.inl (r6, w64 (s2.2 - 1)))
 else
  some (.inr s2.1))) (data_0, w64 ((w64 ((w64 (b_2 - a_1)) - 1)).tdiv 2))) fun o1 =>
  Option.bind (loopM (fun (s14 : (List α) × (Int)) => (bif decide (0 ≤ s14.2) then
  (gidx s14.1 (w64 (a_1 + s14.2))).bind fun x18 =>
  (gidx s14.1 a_1).bind fun x25 =>
  (gidx s14.1 a_1).bind fun x32 =>
  (gidx (s14.1.set a_1.toNat x18) (w64 (a_1 + s14.2))).bind fun x38 =>
  (G.sift cmp ((s14.1.set a_1.toNat x18).set (w64 (a_1 + s14.2)).toNat x25) 0 s14.2 a_1).bind fun r44 =>
  some (.inl (r44, w64 (s14.2 - 1)))
 else
  some (.inr s14.1))) (o1, w64 ((w64 (b_2 - a_1)) - 1))) fun o13 =>
  some o13

noncomputable def G.o2 {α : Type} (cmp : α → α → Option Int) (data_0 : List α) (a_1 : Int) (b_2 : Int) (swaps_3 : Int) : Option (Int × Int × Int) :=
  (gidx data_0 b_2).bind fun x1 =>
  (gidx data_0 a_1).bind fun x8 =>
  (cmp x1 x8).bind fun r16 =>
  (bif decide (r16 < 0) then
  some (b_2, a_1, w64 (swaps_3 + 1))
 else
  some (a_1, b_2, swaps_3))

section
end
end Go.Vs

namespace Go.Vs

section
variable {α : Type} [Inhabited α]
def el (d : List α) (i : Nat) : α := d.getD i default
theorem el_lt {d : List α} {i : Nat} (h : i < d.length) : el d i = d[i] := by simp [el, List.getD, h]
/-- d' is d with the places a ≤ i < b permuted among themselves. -/
structure PermR (a b : Nat) (d d' : List α) : Prop where
  len : d'.length = d.length
  out : ∀ i, i < a ∨ b ≤ i → el d' i = el d i
  perm : d'.Perm d
theorem PermR.refl {a b : Nat} (d : List α) : PermR a b d d := ⟨rfl, fun _ _ => rfl, List.Perm.refl _⟩
theorem PermR.trans {a b : Nat} {d d' d'' : List α} (h : PermR a b d d') (k : PermR a b d' d'') : PermR a b d d'' :=
  ⟨k.len.trans h.len, fun i hi => (k.out i hi).trans (h.out i hi), k.perm.trans h.perm⟩
theorem PermR.mono {a b a' b' : Nat} {d d' : List α} (h : PermR a b d d') (ha : a' ≤ a) (hb : b ≤ b') : PermR a' b' d d' :=
  ⟨h.len, fun i hi => h.out i (by omega), h.perm⟩
/-- What is in the part is in the part. -/
theorem PermR.mem {a b : Nat} {d d' : List α} (h : PermR a b d d') (hab : a ≤ b) (hb : b ≤ d.length) {i : Nat} (h1 : a ≤ i) (h2 : i < b) : ∃ j, a ≤ j ∧ j < b ∧ el d' i = el d j := by
  have cut : ∀ (e : List α), e.length = d.length → e = e.take a ++ ((e.take b).drop a ++ e.drop b) := by
    intro e he
    rw [← List.append_assoc]
    have : e.take a ++ (e.take b).drop a = e.take b := by
      have := List.take_append_drop a (e.take b)
      rwa [List.take_take, Nat.min_eq_left hab] at this
    rw [this, List.take_append_drop]
  have hl := h.len
  have e1 : d'.take a = d.take a := by
    apply List.ext_getElem
    · simp [hl]
    · intro k h3 h4
      simp only [List.length_take] at h3 h4
      rw [List.getElem_take, List.getElem_take, ← el_lt, ← el_lt]
      exact h.out k (by omega)
  have e2 : d'.drop b = d.drop b := by
    apply List.ext_getElem
    · simp [hl]
    · intro k h3 h4
      simp only [List.length_drop] at h3 h4
      rw [List.getElem_drop, List.getElem_drop, ← el_lt, ← el_lt]
      exact h.out (b + k) (by omega)
  have hp := h.perm
  rw [cut d' hl, cut d rfl, e1, e2] at hp
  have hp2 := (List.perm_append_right_iff _).1 ((List.perm_append_left_iff _).1 hp)
  have hm : el d' i ∈ (d'.take b).drop a := by
    rw [el_lt (by omega)]
    refine List.mem_iff_getElem.2 ⟨i - a, by simp; omega, ?_⟩
    simp only [List.getElem_drop, List.getElem_take]
    congr 1; omega
  have hm2 := hp2.mem_iff.1 hm
  obtain ⟨k, hk, e⟩ := List.mem_iff_getElem.1 hm2
  simp only [List.length_drop, List.length_take] at hk
  refine ⟨a + k, by omega, by omega, ?_⟩
  rw [← e, el_lt (by omega)]
  simp only [List.getElem_drop, List.getElem_take]
end

/-- What is asked of the order of these elements. -/
structure Lin {α : Type} (lt : α → α → Bool) (p : α → Prop) : Prop where
  irrefl : ∀ x, p x → lt x x = false
  trans : ∀ x y z, p x → p y → p z → lt x y = true → lt y z = true → lt x z = true
  total : ∀ x y, p x → p y → x ≠ y → lt x y = true ∨ lt y x = true
theorem Lin.asymm {α : Type} {lt : α → α → Bool} {p : α → Prop} (h : Lin lt p) {x y : α} (hx : p x) (hy : p y) (hl : lt x y = true) : lt y x = false := by
  cases e : lt y x with
  | false => rfl
  | true => have := h.trans x y x hx hy hx hl e; rw [h.irrefl x hx] at this; cases this
/-- Not less than: transitive. -/
theorem Lin.ntrans {α : Type} {lt : α → α → Bool} {p : α → Prop} (h : Lin lt p) {x y z : α} (hx : p x) (hy : p y) (hz : p z) (h1 : lt x y = false) (h2 : lt y z = false) : lt x z = false := by
  cases e : lt x z with
  | false => rfl
  | true =>
    rcases Classical.em (x = y) with rfl | hne
    · rw [h2] at e; cases e
    · rcases h.total x y hx hy hne with h' | h'
      · rw [h1] at h'; cases h'
      · have := h.trans y x z hy hx hz h' e
        rw [h2] at this; cases this
def AllP {α : Type} [Inhabited α] (p : α → Prop) (d : List α) : Prop := ∀ i, i < d.length → p (el d i)
theorem AllP.of {α : Type} [Inhabited α] {p : α → Prop} {d : List α} (h : ∀ x ∈ d, p x) : AllP p d := fun i hi => h _ (by rw [el_lt hi]; exact List.getElem_mem _)
theorem AllP.perm {α : Type} [Inhabited α] {p : α → Prop} {d d' : List α} (h : AllP p d) (hp : d'.Perm d) : AllP p d' := by
  refine AllP.of fun x hx => ?_
  obtain ⟨i, hi, e⟩ := List.mem_iff_getElem.1 (hp.mem_iff.1 hx)
  rw [← e, ← el_lt hi]; exact h i hi
/-- Ascending on a ≤ i < b. -/
def Asc {α : Type} [Inhabited α] (lt : α → α → Bool) (a b : Nat) (d : List α) : Prop := ∀ i j, a ≤ i → i < j → j < b → lt (el d j) (el d i) = false
end Go.Vs

namespace Go.Vs

section
variable {α : Type} {cmp : α → α → Option Int} {lt : α → α → Bool} {p : α → Prop}
end

section
variable {α : Type} [Inhabited α] {cmp : α → α → Option Int} {lt : α → α → Bool} {p : α → Prop}
end
end Go.Vs

namespace Go.Vs

section
variable {α : Type} [Inhabited α] {cmp : α → α → Option Int} {lt : α → α → Bool} {p : α → Prop}
end
end Go.Vs

namespace Go.Vs

section
variable {α : Type} [Inhabited α] {cmp : α → α → Option Int} {lt : α → α → Bool} {p : α → Prop}

/-- What the partition gives. -/
structure Parted (lt : α → α → Bool) (a b : Nat) (d : List α) (m : Nat) (d' : List α) : Prop where
  ge : a ≤ m
  le : m < b
  perm : PermR a b d d'
  low : ∀ i, a ≤ i → i < m → lt (el d' i) (el d' m) = true
  high : ∀ i, m < i → i < b → lt (el d' i) (el d' m) = false
end
end Go.Vs

namespace Go.Vs

section
variable {α : Type} [Inhabited α] {cmp : α → α → Option Int} {lt : α → α → Bool} {p : α → Prop}

/-- Ascending, but for pairs that are both in the part. -/
def NIn (lt : α → α → Bool) (a0 b0 a b : Nat) (d : List α) : Prop := ∀ i j, a0 ≤ i → i < j → j < b0 → ¬ (a ≤ i ∧ j < b) → lt (el d j) (el d i) = false
theorem NIn.perm {a0 b0 a b : Nat} {d d' : List α} (h : NIn lt a0 b0 a b d) (hP : PermR a b d d') (ha : a0 ≤ a) (hab : a ≤ b) (hb : b ≤ b0) (hb0 : b0 ≤ d.length) : NIn lt a0 b0 a b d' := by
  intro i j h1 h2 h3 h4
  have cl : ∀ k, ∃ k', el d' k = el d k' ∧ ((a ≤ k ∧ k < b) → a ≤ k' ∧ k' < b) ∧ (¬ (a ≤ k ∧ k < b) → k' = k) := by
    intro k
    by_cases hk : a ≤ k ∧ k < b
    · obtain ⟨k', g1, g2, g3⟩ := hP.mem hab (by omega) hk.1 hk.2
      exact ⟨k', g3, fun _ => ⟨g1, g2⟩, fun h => absurd hk h⟩
    · exact ⟨k, hP.out k (by omega), fun h => absurd h hk, fun _ => rfl⟩
  obtain ⟨i', e1, q1, q2⟩ := cl i
  obtain ⟨j', e2, q3, q4⟩ := cl j
  rw [e1, e2]
  by_cases hi : a ≤ i ∧ i < b
  · have := q1 hi
    by_cases hj : a ≤ j ∧ j < b
    · exact absurd ⟨hi.1, hj.2⟩ h4
    · have := q4 hj; subst this; exact h i' j' (by omega) (by omega) h3 (by omega)
  · have := q2 hi; subst this
    by_cases hj : a ≤ j ∧ j < b
    · have := q3 hj; exact h i' j' h1 (by omega) (by omega) (by omega)
    · have := q4 hj; subst this; exact h i' j' h1 h2 h3 (by omega)
theorem NIn.done {a0 b0 a b : Nat} {d : List α} (h : NIn lt a0 b0 a b d) (hA : Asc lt a b d) : Asc lt a0 b0 d := by
  intro i j h1 h2 h3
  by_cases hc : a ≤ i ∧ j < b
  · exact hA i j hc.1 h2 hc.2
  · exact h i j h1 h2 h3 hc
end
end Go.Vs

namespace Go.Vs

abbrev Hit := Int × Int
/-- Which one of two hits is nearer. -/
def ltH (x y : Hit) : Bool := decide (x.2 < y.2 ∨ x.2 = y.2 ∧ x.1 < y.1)
theorem ltH_iff {x y : Hit} : ltH x y = true ↔ x.2 < y.2 ∨ x.2 = y.2 ∧ x.1 < y.1 := by simp [ltH]
theorem ltH_false {x y : Hit} : ltH x y = false ↔ ¬ (x.2 < y.2 ∨ x.2 = y.2 ∧ x.1 < y.1) := by simp [ltH]
theorem linH : Lin ltH (fun _ => True) where
  irrefl x _ := by rw [ltH_false]; omega
  trans x y z _ _ _ h1 h2 := by rw [ltH_iff] at *; omega
  total x y _ _ h := by
    rw [ltH_iff, ltH_iff]
    by_cases e : x.2 = y.2
    · have : x.1 ≠ y.1 := fun e2 => h (Prod.ext e2 e)
      omega
    · omega
end Go.Vs

namespace Go.Vs

/-- Into its place. -/
def insH (x : Hit) : List Hit → List Hit
  | [] => [x]
  | y :: r => if ltH x y then x :: y :: r else y :: insH x r
def AscH (l : List Hit) : Prop := l.Pairwise fun x y => ltH y x = false
theorem insH_perm (x : Hit) (l : List Hit) : (insH x l).Perm (x :: l) := by
  induction l with
  | nil => exact List.Perm.refl _
  | cons y r ih =>
    unfold insH
    split
    · exact List.Perm.refl _
    · exact (List.Perm.cons y ih).trans (List.Perm.swap x y r)
theorem insH_asc {x : Hit} {l : List Hit} (h : AscH l) : AscH (insH x l) := by
  induction l with
  | nil => exact List.pairwise_singleton _ _
  | cons y r ih =>
    obtain ⟨h1, h2⟩ := List.pairwise_cons.1 h
    unfold insH
    split
    · rename_i hlt
      refine List.pairwise_cons.2 ⟨fun z hz => ?_, h⟩
      rcases List.mem_cons.1 hz with rfl | hz
      · exact linH.asymm trivial trivial hlt
      · exact linH.ntrans trivial trivial trivial (h1 z hz) (linH.asymm trivial trivial hlt)
    · rename_i hlt
      refine List.pairwise_cons.2 ⟨fun z hz => ?_, ih h2⟩
      rcases List.mem_cons.1 ((insH_perm x r).mem_iff.1 hz) with rfl | hz
      · simpa using hlt
      · exact h1 z hz
theorem ltH_antisymm {x y : Hit} (h1 : ltH x y = false) (h2 : ltH y x = false) : x = y := by
  rcases Classical.em (x = y) with h | h
  · exact h
  · rcases linH.total x y trivial trivial h with h' | h'
    · rw [h1] at h'; cases h'
    · rw [h2] at h'; cases h'
theorem asc_uniq {l m : List Hit} (hl : AscH l) (hm : AscH m) (h : l.Perm m) : l = m :=
  List.Perm.eq_of_pairwise (le := fun x y => ltH y x = false) (fun _ _ _ _ h1 h2 => ltH_antisymm h2 h1) hl hm h
/-- All in order. -/
def isort (l : List Hit) : List Hit := l.foldl (fun S x => insH x S) []
theorem isort_spec (l : List Hit) : AscH (isort l) ∧ (isort l).Perm l := by
  have key : ∀ (l S : List Hit), AscH S → AscH (l.foldl (fun S x => insH x S) S) ∧ (l.foldl (fun S x => insH x S) S).Perm (S ++ l) := by
    intro l
    induction l with
    | nil => intro S h; exact ⟨h, by simp⟩
    | cons x r ih =>
      intro S h
      obtain ⟨h1, h2⟩ := ih (insH x S) (insH_asc h)
      refine ⟨h1, h2.trans ?_⟩
      have := List.Perm.append_right r (insH_perm x S)
      exact this.trans (List.perm_middle.symm)
  exact key l [] List.Pairwise.nil
theorem isort_uniq {l m : List Hit} (hm : AscH m) (h : m.Perm l) : isort l = m := asc_uniq (isort_spec l).1 hm ((isort_spec l).2.trans h.symm)
def topH (k : Nat) (l : List Hit) : List Hit := (isort l).take k
theorem topH_sub (k : Nat) (l : List Hit) : ∀ x ∈ topH k l, x ∈ l := fun x hx => (isort_spec l).2.mem_iff.1 (List.mem_of_mem_take hx)

/-! ## What the heap keeps -/
/-! ## The searches -/
/-- The hits of a store. -/
def hitsOf (l : List Item) (kind : Int) (at_ : List Int) : List Hit := l.map fun x => (x.1, dist kind x.2.1 at_)
end Go.Vs

namespace Go.Vs

theorem hitsOf_mem {l : List Item} {kind : Int} {at_ : List Int} {h : Hit} : h ∈ hitsOf l kind at_ ↔ ∃ x ∈ l, h = (x.1, dist kind x.2.1 at_) := by
  unfold hitsOf
  rw [List.mem_map]
  constructor
  · rintro ⟨x, hx, rfl⟩; exact ⟨x, hx, rfl⟩
  · rintro ⟨x, hx, rfl⟩; exact ⟨x, hx, rfl⟩
theorem dist_self {k : Int} {a : List Int} (hk : isKind k = true) (ha : isVec a = true) : dist k a a = 0 := by
  obtain ⟨x, y, z, w, rfl, _⟩ := isVec_four ha
  rw [dist_vec ha ha]
  have g : ∀ t : Int, gap t t = 0 := fun t => (gap_zero t t).2 rfl
  rw [g, g, g, g]
  rcases isKind_iff.1 hk with ⟨k1, k2⟩
  unfold dk
  rcases (show k = 1 ∨ k = 2 ∨ k = 3 ∨ k = 4 by omega) with rfl | rfl | rfl | rfl <;> rfl
end Go.Vs

namespace Go.Vs

end Go.Vs

namespace Go.Vs

end Go.Vs

namespace Go.Vs

end Go.Vs

namespace Go.Vs

end Go.Vs

namespace Go.Vs

end Go.Vs

namespace Go.Vs

/-- Items that may be put into a tree. -/
structure OkL (l : List Item) : Prop where
  len : l.length ≤ 16
  vec : ∀ x ∈ l, isVec x.2.1 = true
  keys : (l.map (·.1)).Nodup
theorem OkL.inj {l : List Item} (h : OkL l) : ∀ x y, x ∈ l → y ∈ l → x.1 = y.1 → x = y := fun x y hx hy e => by
  obtain ⟨i, hi, rfl⟩ := List.mem_iff_getElem.1 hx
  obtain ⟨j, hj, rfl⟩ := List.mem_iff_getElem.1 hy
  have hpw := List.pairwise_iff_getElem.1 (List.pairwise_map.1 h.keys)
  rcases Nat.lt_trichotomy i j with h | h | h
  · exact absurd e (hpw i j hi hj h)
  · subst h; rfl
  · exact absurd e.symm (hpw j i hj hi h)
theorem OkL.sub {l m : List Item} (h : OkL l) (hs : List.Sublist m l) : OkL m :=
  ⟨Nat.le_trans hs.length_le h.len, fun x hx => h.vec x (hs.subset hx), List.Nodup.sublist (hs.map _) h.keys⟩
theorem OkL.perm {l m : List Item} (h : OkL l) (hp : m.Perm l) : OkL m :=
  ⟨by rw [hp.length_eq]; exact h.len, fun x hx => h.vec x (hp.mem_iff.1 hx), (hp.map (·.1)).nodup_iff.2 h.keys⟩

end Go.Vs

namespace Go.Vs

abbrev Nod := Int × Int × Int × Int
def nodesT : Tr Item → Nat → List Nod
  | .nil, _ => []
  | .node x n l r, a => (x.1, n, (bif l.isNil then -1 else ((a + 1 : Nat) : Int)), (bif r.isNil then -1 else ((a + 1 + (nodesT l (a + 1)).length : Nat) : Int))) :: (nodesT l (a + 1) ++ nodesT r (a + 1 + (nodesT l (a + 1)).length))
def Tr.size : Tr Item → Nat
  | .nil => 0
  | .node _ _ l r => l.size + r.size + 1
theorem nodesT_len : ∀ (t : Tr Item) (a : Nat), (nodesT t a).length = t.size
  | .nil, _ => rfl
  | .node x n l r, a => by simp only [nodesT, List.length_cons, List.length_append, nodesT_len l, nodesT_len r, Tr.size]
end Go.Vs

namespace Go.Vs

end Go.Vs

namespace Go.Vs

end Go.Vs

namespace Go.Vs

end Go.Vs

namespace Go.Vs

def itemsT : Tr Item → List Item
  | .nil => []
  | .node x _ l r => x :: (itemsT l ++ itemsT r)
/-- A tree's nodes stand in a list, from a place on. -/
def Sub (L : List Nod) (t : Tr Item) (a : Nat) : Prop := ∃ pre post, L = pre ++ nodesT t a ++ post ∧ pre.length = a
theorem Sub.left {L : List Nod} {x : Item} {q : Int} {l r : Tr Item} {a : Nat} (h : Sub L (.node x q l r) a) : Sub L l (a + 1) := by
  obtain ⟨pre, post, rfl, rfl⟩ := h
  exact ⟨pre ++ (nodesT (.node x q l r) pre.length).take 1, nodesT r (pre.length + 1 + (nodesT l (pre.length + 1)).length) ++ post, by simp [nodesT], by simp [nodesT]⟩
theorem Sub.right {L : List Nod} {x : Item} {q : Int} {l r : Tr Item} {a : Nat} (h : Sub L (.node x q l r) a) : Sub L r (a + 1 + l.size) := by
  obtain ⟨pre, post, rfl, rfl⟩ := h
  exact ⟨pre ++ (nodesT (.node x q l r) pre.length).take 1 ++ nodesT l (pre.length + 1), post, by simp [nodesT, nodesT_len], by simp [nodesT, nodesT_len]; omega⟩
theorem Sub.get {L : List Nod} {x : Item} {q : Int} {l r : Tr Item} {a : Nat} (h : Sub L (.node x q l r) a) : ∃ hl : a < L.length, L[a] = (x.1, q, (bif l.isNil then -1 else ((a + 1 : Nat) : Int)), (bif r.isNil then -1 else ((a + 1 + l.size : Nat) : Int))) := by
  obtain ⟨pre, post, rfl, rfl⟩ := h
  exact ⟨by simp [nodesT], by simp [nodesT, nodesT_len]⟩
theorem Sub.gidx {L : List Nod} {x : Item} {q : Int} {l r : Tr Item} {a : Nat} (h : Sub L (.node x q l r) a) : Go.Vs.gidx L (a : Int) = some (x.1, q, (bif l.isNil then -1 else ((a + 1 : Nat) : Int)), (bif r.isNil then -1 else ((a + 1 + l.size : Nat) : Int))) := by
  obtain ⟨hl, e⟩ := h.get
  rw [gidx_nat hl, e]
theorem sub_self (t : Tr Item) : Sub (nodesT t 0) t 0 := ⟨[], [], by simp, rfl⟩

end Go.Vs

namespace Go.Vs

def hitV (kd : Int) (v : List Int) (x : Item) : Hit := (x.1, dist kd x.2.1 v)
def hitsV (kd : Int) (v : List Int) (l : List Item) : List Hit := l.map (hitV kd v)
/-- How far a search looks. -/
def reachH (k : Nat) (V : List Hit) : Int := if (topH k V).length < k then 1000000 else ((topH k V).getD (k - 1) (0, 0)).2
/-! ## Lists with the same nearest ones -/
def SameT (k : Nat) (U V : List Hit) : Prop := topH k U = topH k V
theorem SameT.refl (k : Nat) (U : List Hit) : SameT k U U := rfl
theorem SameT.trans {k : Nat} {U V W : List Hit} (h : SameT k U V) (g : SameT k V W) : SameT k U W := Eq.trans h g
theorem SameT.symm {k : Nat} {U V : List Hit} (h : SameT k U V) : SameT k V U := Eq.symm h
theorem SameT.perm {k : Nat} {U V : List Hit} (h : U.Perm V) : SameT k U V := by
  show topH k U = topH k V
  unfold topH
  rw [isort_uniq (isort_spec V).1 ((isort_spec V).2.trans h.symm)]
theorem SameT.reach {k : Nat} {U V : List Hit} (h : SameT k U V) : reachH k U = reachH k V := by
  unfold reachH
  rw [h]
/-! ## Trees find the nearest -/
/-! ## At how many nodes they look -/
noncomputable def vis (kd : Int) (v : List Int) (k : Nat) : Tr Item → List Hit → Nat
  | .nil, _ => 0
  | .node x q l r, P =>
    if dist kd x.2.1 v ≤ q then
      vis kd v k l (P ++ [hitV kd v x]) + 1 + (if q - dist kd x.2.1 v ≤ reachH k (P ++ [hitV kd v x] ++ hitsV kd v (itemsT l)) then vis kd v k r (P ++ [hitV kd v x] ++ hitsV kd v (itemsT l)) else 0)
    else
      vis kd v k r (P ++ [hitV kd v x]) + 1 + (if dist kd x.2.1 v - q ≤ reachH k (P ++ [hitV kd v x] ++ hitsV kd v (itemsT r)) then vis kd v k l (P ++ [hitV kd v x] ++ hitsV kd v (itemsT r)) else 0)
end Go.Vs

namespace Go.Vs

/-! ## The program's search -/
/-! ## What is answered -/
end Go.Vs

namespace Go.Vs

/-! ## Exact laws -/
end Go.Vs

namespace Go.Vs

end Go.Vs

namespace Go.Vs

/-! ## The first of the least -/
def SmallC (cs : List (List Int)) : Prop := cs.length < 2000000 ∧ ∀ c ∈ cs, c.length < 2000000
/-! ## Drawn centres -/
/-! ## Laws -/
theorem SmallC.sub {cs ds : List (List Int)} (h : SmallC cs) (hs : ds.Sublist cs) : SmallC ds := ⟨by have := hs.length_le; have := h.1; omega, fun c hc => h.2 c (hs.subset hc)⟩
theorem dist_zero {k : Int} (hk : isKind k = true) {a b : List Int} (ha : isVec a = true) (hb : isVec b = true) (h : dist k a b = 0) : a = b := by
  obtain ⟨x0, x1, x2, x3, rfl, c0, c1, c2, c3⟩ := isVec_cut ha
  obtain ⟨y0, y1, y2, y3, rfl, e0, e1, e2, e3⟩ := isVec_cut hb
  rw [dist_vec ha hb] at h
  obtain ⟨h0, h1, h2, h3⟩ := (dk_zero (gaps_of c0 c1 c2 c3 e0 e1 e2 e3) (isKind_iff.1 hk)).1 h
  rw [gap_zero] at h0 h1 h2 h3
  rw [h0, h1, h2, h3]
/-! ## Items and their centres -/
/-! ## Spreads -/
end Go.Vs

namespace Go.Vs

section
variable {cmp : Int → Int → Option Int} {D : Nat → Int} {n : Nat}
end

end Go.Vs

namespace Go.Vs

abbrev OkIs (l : List Item) : Prop := l.length ≤ 9223372036854775807 ∧ ∀ x ∈ l, (True ∧ ((x.2.1.length ≤ 9223372036854775807 ∧ ∀ y ∈ x.2.1, True) ∧ True))
end Go.Vs

namespace Go.Vs

/-! ## Settling -/
theorem sliceEq_ok {a b : List Int} (ha : a.length < 2000000) : M.slices_Equal_int_int a b = some (decide (a = b)) := equalInts_ok ha
end Go.Vs

namespace Go.Vs

/-! ## What searches cost -/
/-! ## Exact laws -/
end Go.Vs

namespace Go.Vs

/-! ## All items are in a list -/
end Go.Vs

namespace Go.Vs

end Go.Vs

namespace Go.Vs

end Go.Vs

namespace Go.Vs

/-- The sum of squares between two halves. -/
def hd2 (u v : List Int) : Int := gap (u.getD 0 0) (v.getD 0 0) * gap (u.getD 0 0) (v.getD 0 0) + gap (u.getD 1 0) (v.getD 1 0) * gap (u.getD 1 0) (v.getD 1 0)
def hD (l : List (List Int)) (v : List Int) (j : Nat) : Int := hd2 (l.getD j []) v
end Go.Vs

namespace Go.Vs

end Go.Vs

namespace Go.Vs

end Go.Vs

namespace Go.Vs

end Go.Vs

namespace Go.Vs

def itemAt (l : List Item) (k : Int) : Item := (l.find? fun x => x.1 == k).getD zItem
theorem itemAt_mem {l : List Item} {k : Int} (h : ∃ x ∈ l, x.1 = k) : itemAt l k ∈ l ∧ (itemAt l k).1 = k ∧ ∃ i, ∃ hi : i < l.length, l.findIdx? (fun x => x.1 == k) = some i ∧ l[i] = itemAt l k := by
  obtain ⟨x, hx, rfl⟩ := h
  cases hf : l.findIdx? (fun y => y.1 == x.1) with
  | none =>
    rw [List.findIdx?_eq_none_iff] at hf
    have := hf x hx
    simp at this
  | some i =>
    obtain ⟨hi, h1, h2⟩ := List.findIdx?_eq_some_iff_getElem.1 hf
    have hfd : l.find? (fun y => y.1 == x.1) = some l[i] := List.find?_eq_some_iff_getElem.2 ⟨h1, i, hi, rfl, fun j hj => by have := h2 j hj; simpa using this⟩
    have e : itemAt l x.1 = l[i] := by unfold itemAt; rw [hfd]; rfl
    rw [e]
    exact ⟨List.getElem_mem hi, by simpa using h1, i, hi, rfl, rfl⟩
end Go.Vs

namespace Go.Vs

/-! ## Planes -/
end Go.Vs

namespace Go.Vs

/-! ## Tables -/
/-! ## Vectors of codes -/
/-! ## Distances of codes -/
end Go.Vs

namespace Go.Vs

end Go.Vs

namespace Go.Vs

/-! ## Bits -/
end Go.Vs

namespace Go.Vs

/-! ## Opposite vectors -/
/-! ## A plane looks at itself -/
/-! ## Twice a vector -/
end Go.Vs

namespace Go.Vs

/-! ## Buckets -/
end Go.Vs

namespace Go.Vs

theorem topH_perm {k : Nat} {l m : List Hit} (h : l.Perm m) : topH k l = topH k m := by
  unfold topH
  rw [isort_uniq (isort_spec m).1 ((isort_spec m).2.trans h.symm)]
/-! ## Ranked again -/
/-! ## The nearest of a bucket -/
end Go.Vs

namespace Go.Vs

/-- All items but one. -/
def others (l : List Item) (x : Item) : List Item := l.filter fun y => decide (y.1 ≠ x.1)
/-- The hits of the neighbours of an item. -/
def nbH (l : List Item) (kind : Int) (many : Nat) (x : Item) : List Hit := topH many (hitsOf (others l x) kind x.2.1)
def nbs (l : List Item) (kind : Int) (many : Nat) (x : Item) : List Int := (nbH l kind many x).map (·.1)
theorem key_uniq {l : List Item} (hp : l.Pairwise (fun x y => x.1 < y.1)) {x y : Item} (hx : x ∈ l) (hy : y ∈ l) (h : x.1 = y.1) : x = y := by
  obtain ⟨i, hi, rfl⟩ := List.getElem_of_mem hx
  obtain ⟨j, hj, rfl⟩ := List.getElem_of_mem hy
  rcases Nat.lt_trichotomy i j with q | q | q
  · have := List.pairwise_iff_getElem.1 hp i j hi hj q; omega
  · subst q; rfl
  · have := List.pairwise_iff_getElem.1 hp j i hj hi q; omega
theorem mem_others {l : List Item} {x y : Item} : y ∈ others l x ↔ y ∈ l ∧ y.1 ≠ x.1 := by unfold others; simp
theorem mem_nbs {l : List Item} {kind : Int} {many : Nat} {x : Item} {c : Int} (h : c ∈ nbs l kind many x) : ∃ y ∈ l, y.1 = c ∧ y.1 ≠ x.1 := by
  unfold nbs at h
  obtain ⟨t, ht, rfl⟩ := List.mem_map.1 h
  obtain ⟨y, hy, rfl⟩ := hitsOf_mem.1 (topH_sub _ _ t ht)
  obtain ⟨h1, h2⟩ := mem_others.1 hy
  exact ⟨y, h1, rfl, h2⟩
/-! ## Walks -/
end Go.Vs

namespace Go.Vs

/-! ## Walks -/
theorem find_at {l : List Item} (hp : l.Pairwise (fun x y => x.1 < y.1)) {x : Item} (hx : x ∈ l) : itemAt l x.1 = x := by
  obtain ⟨h1, h2, _⟩ := itemAt_mem (l := l) (k := x.1) ⟨x, hx, rfl⟩
  exact key_uniq hp h1 hx h2
theorem keyAtI {l : List Item} (hp : l.Pairwise (fun x y => x.1 < y.1)) (hl : l.length < 2000000) {x : Item} (hx : x ∈ l) : ∃ i, ∃ hi : i < l.length, M.spec_keyAt l x.1 = some (i : Int) ∧ l[i] = x := by
  obtain ⟨_, _, i, hi, h1, h2⟩ := itemAt_mem (l := l) (k := x.1) ⟨x, hx, rfl⟩
  refine ⟨i, hi, by rw [keyAt_ok hl, h1], by rw [h2, find_at hp hx]⟩
theorem keyAtI_none {l : List Item} (hl : l.length < 2000000) {k : Int} (h : ¬ ∃ x ∈ l, x.1 = k) : M.spec_keyAt l k = some (-1) := by
  rw [keyAt_ok hl]
  have : l.findIdx? (fun x => x.1 == k) = none := by
    rw [List.findIdx?_eq_none_iff]
    intro x hx
    simp only [beq_eq_false_iff_ne]
    exact fun e => h ⟨x, hx, e⟩
  rw [this]
def hasK (l : List Item) (k : Int) : Bool := l.any fun x => x.1 == k
theorem hasK_iff {l : List Item} {k : Int} : hasK l k = true ↔ ∃ x ∈ l, x.1 = k := by unfold hasK; simp
theorem keyAt_sign {l : List Item} (hl : l.length < 2000000) (k : Int) : ∃ r, M.spec_keyAt l k = some r ∧ decide (r < 0) = !hasK l k := by
  cases h : hasK l k with
  | true =>
    obtain ⟨_, _, i, hi, h1, h2⟩ := itemAt_mem (hasK_iff.1 h)
    exact ⟨(i : Int), by rw [keyAt_ok hl, h1], by simp⟩
  | false =>
    refine ⟨-1, keyAtI_none hl fun hh => ?_, rfl⟩
    rw [hasK_iff.2 hh] at h; cases h
end Go.Vs

namespace Go.Vs

/-- From a key to a neighbour's. -/
def Edge (l : List Item) (kind : Int) (many : Nat) (c d : Int) : Prop := ∃ x ∈ l, x.1 = c ∧ d ∈ nbs l kind many x
inductive Reach (l : List Item) (kind : Int) (many : Nat) (key : Int) : Int → Prop
  | base : Reach l kind many key key
  | step {c d : Int} : Reach l kind many key c → Edge l kind many c d → Reach l kind many key d
theorem Edge.mem {l : List Item} {kind : Int} {many : Nat} {c d : Int} (e : Edge l kind many c d) : ∃ y ∈ l, y.1 = d := by
  obtain ⟨x, _, _, h2⟩ := e
  obtain ⟨y, hy, h3, _⟩ := mem_nbs h2; exact ⟨y, hy, h3⟩
theorem Reach.mem {l : List Item} {kind : Int} {many : Nat} {key c : Int} (hk : ∃ y ∈ l, y.1 = key) (r : Reach l kind many key c) : ∃ y ∈ l, y.1 = c := by
  cases r with
  | base => exact hk
  | step _ e => exact e.mem
end Go.Vs

namespace Go.Vs

/-! ## Filters -/
/-! ## What is drawn -/
end Go.Vs

namespace Go.Vs

end Go.Vs

namespace Go.Vs

end Go.Vs

namespace Go.Vs

end Go.Vs

namespace Go.Vs

end Go.Vs

namespace Go.Vs

/-! ## Walks -/
end Go.Vs

namespace Go.Vs

end Go.Vs

namespace Go.Vs

theorem nodup_of {l : List Hit} (h : (l.map (·.1)).Nodup) : l.Nodup := List.Pairwise.of_map (·.1) (fun a b h e => h (congrArg _ e)) h
end Go.Vs

namespace Go.Vs

/-- The best of its key. -/
def Bst (S : List Hit) (x : Hit) : Prop := x ∈ S ∧ ∀ y ∈ S, y.1 = x.1 → x.2 ≤ y.2
structure BL (S L : List Hit) : Prop where
  keys : (L.map (·.1)).Nodup
  mem : ∀ x, x ∈ L ↔ Bst S x
theorem BL.nodup {S L : List Hit} (h : BL S L) : L.Nodup := nodup_of h.keys
theorem BL.same {S S' L L' : List Hit} {k : Nat} (h : BL S L) (h' : BL S' L') (hs : ∀ x, x ∈ S ↔ x ∈ S') : topH k L = topH k L' := by
  refine topH_perm ((List.perm_ext_iff_of_nodup h.nodup h'.nodup).2 fun x => ?_)
  rw [h.mem, h'.mem]
  unfold Bst
  constructor
  · rintro ⟨h1, h2⟩; exact ⟨(hs x).1 h1, fun y hy => h2 y ((hs y).2 hy)⟩
  · rintro ⟨h1, h2⟩; exact ⟨(hs x).2 h1, fun y hy => h2 y ((hs y).1 hy)⟩
end Go.Vs

namespace Go.Vs

structure Frs (P s : List Hit) : Prop where
  sub : s.Sublist P
  keys : (s.map (·.1)).Nodup
  all : ∀ y ∈ P, ∃ z ∈ s, z.1 = y.1 ∧ z.2 ≤ y.2
theorem Frs.nil : Frs [] [] := ⟨List.Sublist.refl _, by simp, by simp⟩
end Go.Vs

namespace Go.Vs

end Go.Vs

namespace Go.Vs

end Go.Vs

namespace Go.Vs

end Go.Vs

namespace Go.Vs

end Go.Vs

namespace Go.Vs

end Go.Vs

namespace Go.Vs

end Go.Vs

namespace Go.Vs

end Go.Vs

namespace Go.Vs

abbrev Ent := Int × Item
def okEn (e : Ent) : Bool := if e.1 = 1 then isItem e.2 else decide (e.1 = 2) && (decide (1 ≤ e.2.1 ∧ e.2.1 ≤ 99) && (decide (e.2.2.1.length = 0) && decide (e.2.2.2 = 0)))
def okLg (log : List Ent) : Bool := log.all okEn && decide (log.length ≤ 32)
def SmallE (log : List Ent) : Prop := log.length ≤ 1048576 ∧ ∀ e ∈ log, e.2.2.1.length ≤ 1048576
def apV (l : List Item) (e : Ent) : List Item × Bool := if e.1 = 1 then putItem l e.2 else dropItem l e.2.1
/-- A store after the entries up to the first one that can't be done, and how many were done. -/
def repL (l : List Item) : List Ent → List Item × Nat
  | [] => (l, 0)
  | e :: es => if (apV l e).2 = true then ((repL (apV l e).1 es).1, (repL (apV l e).1 es).2 + 1) else (l, 0)
end Go.Vs

namespace Go.Vs

theorem szItemS2_ok {a : List Item} {left : Int} (ha : a.length ≤ 9223372036854775807) (hx : ∀ x ∈ a, x.2.1.length ≤ 9223372036854775807) (h0 : 0 ≤ left) (h1 : left ≤ 1048576) :
    ∃ s, M.laws_szItemS a left = some s ∧ (s < 0 ∨ (0 ≤ s ∧ s ≤ left ∧ a.length ≤ 1048576 ∧ ∀ x ∈ a, x.2.1.length ≤ 1048576)) := by
  unfold M.laws_szItemS
  rw [w64_id (by omega) (by omega)]
  by_cases h : left - (a.length : Int) < 0
  · exact ⟨-1, by simp [h], .inl (by omega)⟩
  simp only [h, decide_false, cond_false]
  have hl : a.length ≤ 1048576 := by omega
  have key : ∀ m k : Nat, ∀ l : Int, k + m = a.length → 0 ≤ l → l ≤ 1048576 → ∃ r : Int ⊕ Int, loopM (fun (s3 : (Int) × (Int)) => (bif decide (s3.2 < (a.length : Int)) then
  (gidx a s3.2).bind fun x8 =>
  (M.laws_szItem (x8.1, x8.2.1, x8.2.2) s3.1).bind fun r19 =>
  (bif decide (r19 < 0) then
  some (.inr (.inr (-1)))
 else
  some (.inl (r19, w64 (s3.2 + 1))))
 else
  some (.inr (.inl s3.1)))) (l, (k : Int)) = some r ∧ (r = .inr (-1) ∨ ∃ l', r = .inl l' ∧ 0 ≤ l' ∧ l' ≤ l ∧ ∀ x ∈ a.drop k, x.2.1.length ≤ 1048576) := by
    intro m
    induction m with
    | zero =>
      intro k l hk hl0 _
      have : k = a.length := by omega
      subst this
      refine ⟨.inl l, ?_, .inr ⟨l, rfl, hl0, Int.le_refl _, by simp⟩⟩
      rw [loopM_eq]; simp [selim]
    | succ m ih =>
      intro k l hk hl0 hl1
      have hlt : k < a.length := by omega
      have e1 : decide ((k : Int) < (a.length : Int)) = true := by simpa using hlt
      have e2 : w64 ((k : Int) + 1) = ((k + 1 : Nat) : Int) := w64_id (by omega) (by omega)
      obtain ⟨s, es, hs⟩ := szItem_ok (x := a[k]) (hx _ (List.getElem_mem hlt)) hl0 hl1
      have es' : M.laws_szItem (a[k].1, a[k].2.1, a[k].2.2) l = some s := es
      rw [loopM_eq]
      simp only [e1, cond_true, gidx_nat hlt, Option.bind_some, es', e2]
      rcases hs with hs | ⟨hs0, hs1, hs2⟩
      · exact ⟨.inr (-1), by simp [hs, selim], .inl rfl⟩
      · obtain ⟨r, hr, hr'⟩ := ih (k + 1) s (by omega) hs0 (by omega)
        refine ⟨r, ?_, ?_⟩
        · have : ¬ s < 0 := by omega
          simp only [this, decide_false, cond_false, selim, Option.bind_some]
          exact hr
        · rcases hr' with hr' | ⟨l', e, h0', hle, hall⟩
          · exact .inl hr'
          · refine .inr ⟨l', e, h0', by omega, ?_⟩
            rw [List.drop_eq_getElem_cons hlt]
            intro x hx'
            rcases List.mem_cons.1 hx' with h | h
            · subst h; exact hs2
            · exact hall x h
  obtain ⟨r, hr, hr'⟩ := key a.length 0 (left - a.length) (by omega) (by omega) (by omega)
  simp only [Int.cast_ofNat_Int] at hr
  rw [hr]
  rcases hr' with rfl | ⟨l', rfl, h0', hle, hall⟩
  · exact ⟨-1, rfl, .inl (by omega)⟩
  · exact ⟨l', rfl, .inr ⟨h0', by omega, hl, by simpa using hall⟩⟩
end Go.Vs

namespace Go.Vs

end Go.Vs

namespace Go.Vs

end Go.Vs

namespace Go.Vs

end Go.Vs

namespace Go.Vs

end Go.Vs

namespace Go.Vs

/-- What a store has at a key. -/
def atK (l : List Item) (k : Int) : Option Item := l.find? fun x => x.1 == k
theorem atK_iff {l : List Item} (hp : l.Pairwise (fun x y => x.1 < y.1)) {k : Int} {y : Item} : atK l k = some y ↔ y ∈ l ∧ y.1 = k := by
  constructor
  · intro h
    exact ⟨List.mem_of_find?_eq_some h, by simpa using List.find?_some h⟩
  · rintro ⟨h, rfl⟩
    exact find_key0 hp h
/-! ## Short logs -/
end Go.Vs

namespace Go.Vs

end Go.Vs

namespace Go.Vs

theorem SmallE.sub {a b : List Ent} (h : SmallE b) (s : a.Sublist b) : SmallE a := ⟨by have := s.length_le; have := h.1; omega, fun e he => h.2 e (s.subset he)⟩
end Go.Vs

namespace Go.Vs

def dropE (x : Item) : Ent := (2, (x.1, [], 0))
def putE (y : Item) : Ent := (1, y)
def onlyA (a b : List Item) : List Item := a.filter fun x => !hasK b x.1
def turnB (a b : List Item) : List Item := b.filter fun y => decide (atK a y.1 ≠ some y)
def logB (a b : List Item) : List Ent := (onlyA a b).map dropE ++ (turnB a b).map putE
def logBV (a b : List Item) : List Ent := if okStore a = true ∧ okStore b = true then logB a b else []
theorem hasK_at {l : List Item} {k : Int} : hasK l k = (atK l k).isSome := by
  unfold hasK atK
  rw [Bool.eq_iff_iff, List.find?_isSome, List.any_eq_true]
theorem sameItem_ok {x y : Item} (hx : isItem x = true) (hy : isItem y = true) : M.spec_sameItem (x.1, x.2.1, x.2.2) (y.1, y.2.1, y.2.2) = some (decide (x = y)) := by
  unfold M.spec_sameItem
  have vx := isItem_vec hx
  have vy := isItem_vec hy
  have hk : isKind 4 = true := rfl
  simp only [specDist_vec hk vx vy, Option.bind_some]
  by_cases h1 : x.1 = y.1
  · by_cases h2 : x.2.2 = y.2.2
    · by_cases h3 : x.2.1 = y.2.1
      · have : x = y := Prod.ext h1 (Prod.ext h3 h2)
        subst this
        simp [dist_self hk vx]
      · have hd : dist 4 x.2.1 y.2.1 ≠ 0 := fun h => h3 (dist_zero hk vx vy h)
        have : ¬ x = y := fun q => h3 (by rw [q])
        simp [h1, h2, hd, this]
    · have : ¬ x = y := fun q => h2 (by rw [q])
      have e : (x.2.2 == y.2.2) = false := by simp [h2]
      simp [h1, e, this]
  · have : ¬ x = y := fun q => h1 (by rw [q])
    have e : (x.1 == y.1) = false := by simp [h1]
    simp [e, this]
theorem specLogB_ok {a b : List Item} (sa : SmallS a) (sb : SmallS b) : M.spec_LogBetween a b = some (logBV a b) := by
  unfold M.spec_LogBetween logBV
  simp only [sa.specv, sb.specv, Option.bind_some]
  cases ha : okStore a with
  | false => simp
  | true =>
    cases hb : okStore b with
    | false => simp
    | true =>
      obtain ⟨la, ia, pa⟩ := okStore_iff.1 ha
      obtain ⟨lb, ib, pb⟩ := okStore_iff.1 hb
      simp only [Bool.not_true, cond_false, Option.bind_some, and_self, if_true]
      refine fold_bind (xs := a) (fun (s : List Ent) i => (s, i)) (fun s x => if (!hasK b x.1) = true then s ++ [dropE x] else s) (fun i s => s.length ≤ i) (fun s => s) (s0 := []) (by simp) ?_ ?_ ?_
      · intro s i hi hs
        have d1 : decide ((i : Int) < (a.length : Int)) = true := decide_eq_true (by omega)
        obtain ⟨r, hr, hsg⟩ := keyAt_sign sb.hL a[i].1
        simp only [d1, cond_true, gidx_nat hi, Option.bind_some, hr, hsg, w64_succ (i := i) (by omega)]
        cases hasK b a[i].1 with
        | true => simp; omega
        | false =>
          simp only [Bool.not_false, cond_true]
          rw [gapp_ok (by simp; omega)]
          exact ⟨rfl, by simp; omega⟩
      · intro s _; simp
      · intro _
        rw [foldl_filterMap]
        have hA : ((a.filter fun x => !hasK b x.1).map dropE).length ≤ 16 := by
          rw [List.length_map]; exact Nat.le_trans (List.length_filter_le _ _) la
        refine fold_bind (xs := b) (fun (s : List Ent) i => (s, i)) (fun s y => if decide (atK a y.1 ≠ some y) = true then s ++ [putE y] else s) (fun i s => s.length ≤ 16 + i) (fun s => s) (s0 := [] ++ (a.filter fun x => !hasK b x.1).map dropE) (by simp at hA ⊢; omega) ?_ ?_ ?_
        · intro s i hi hs
          have d1 : decide ((i : Int) < (b.length : Int)) = true := decide_eq_true (by omega)
          have hiy := ib _ (List.getElem_mem hi)
          have hsz := sb.2 _ (List.getElem_mem hi)
          have hmain : ∃ q, (M.spec_keyAt a b[i].1).bind (fun r69 => Option.bind ((bif decide (r69 < 0) then
  some true
 else
  (gidx a r69).bind fun x77 =>
  (gidx b (i : Int)).bind fun x87 =>
  (M.spec_sameItem (x77.1, x77.2.1, x77.2.2) (x87.1, x87.2.1, x87.2.2)).bind fun r99 =>
  some (!r99))) (fun o => some o)) = some q ∧ q = decide (atK a b[i].1 ≠ some b[i]) := by
            cases hk : hasK a b[i].1 with
            | false =>
              have hno : ¬ ∃ x ∈ a, x.1 = b[i].1 := fun h => by rw [hasK_iff.2 h] at hk; cases hk
              have hat : atK a b[i].1 = none := by
                rw [hasK_at] at hk; simpa using hk
              refine ⟨true, ?_, ?_⟩
              · rw [keyAtI_none sa.hL hno]; rfl
              · rw [hat]; simp
            | true =>
              obtain ⟨x, hx, hxk⟩ := hasK_iff.1 hk
              obtain ⟨j, hj, hr, hje⟩ := keyAtI pa sa.hL hx
              have hat : atK a b[i].1 = some x := (atK_iff pa).2 ⟨hx, hxk⟩
              have hng : decide ((j : Int) < 0) = false := decide_eq_false (by omega)
              refine ⟨!decide (x = b[i]), ?_, ?_⟩
              · rw [← hxk, hr]
                simp only [Option.bind_some, hng, cond_false, gidx_nat hj, gidx_nat hi, hje, sameItem_ok (ia x hx) hiy]
              · rw [hat, Bool.eq_iff_iff]; simp
          obtain ⟨q, hq, hqe⟩ := hmain
          simp only [d1, cond_true, gidx_nat hi, Option.bind_some, w64_succ (i := i) (by omega)]
          rw [gidx_nat hi] at hq
          obtain ⟨r, hr⟩ : ∃ r, M.spec_keyAt a b[i].1 = some r := ⟨_, keyAt_ok sa.hL⟩
          rw [hr] at hq ⊢
          simp only [Option.bind_some] at hq ⊢
          rw [bind_id] at hq
          rw [hq, ← hqe]
          cases q with
          | false => simp; omega
          | true =>
            simp only [Option.bind_some, cond_true, copyItem_spec (x := b[i]) (by have := isItem_len hiy; omega)]
            rw [gapp_ok (by simp; omega)]
            exact ⟨rfl, by simp; omega⟩
        · intro s _; simp
        · intro _
          rw [foldl_filterMap]; simp [logB, onlyA, turnB]

theorem equalIt_ok {x y : Item} (h : x.2.1.length < 2000000) : M.impl_equalItems (x.1, x.2.1, x.2.2) (y.1, y.2.1, y.2.2) = some (decide (x = y)) := by
  unfold M.impl_equalItems
  simp only [sliceEq_ok h, Option.bind_some]
  by_cases h1 : x.1 = y.1
  · by_cases h2 : x.2.2 = y.2.2
    · by_cases h3 : x.2.1 = y.2.1
      · have : x = y := Prod.ext h1 (Prod.ext h3 h2)
        subst this; simp
      · have : ¬ x = y := fun q => h3 (by rw [q])
        simp [h1, h2, h3, this]
    · have : ¬ x = y := fun q => h2 (by rw [q])
      have e : (x.2.2 == y.2.2) = false := by simp [h2]
      simp [h1, e, this]
  · have : ¬ x = y := fun q => h1 (by rw [q])
    have e : (x.1 == y.1) = false := by simp [h1]
    simp [e, this]
theorem hasIt_ok {l : List Item} {y : Item} (hl : l.length ≤ 1000000) (h : y.2.1.length < 2000000) : M.impl_hasItem l (y.1, y.2.1, y.2.2) = some (l.any fun x => decide (y = x)) := by
  unfold M.impl_hasItem M.slices_ContainsFunc_impl_Item_impl_Item__impl_hasItem_1 M.slices_IndexFunc_impl_Item_impl_Item__impl_hasItem_1 M.impl_hasItem_1__p_impl_Item
  rw [loop_first (xs := l) (fun x => decide (y = x)) (fun i => (i : Int))]
  · cases hf : l.findIdx? (fun x => decide (y = x)) with
    | none =>
      rw [List.findIdx?_eq_none_iff] at hf
      have : (l.any fun x => decide (y = x)) = false := by
        rw [List.any_eq_false]; intro z hz; have := hf z hz; simpa using this
      rw [this]; rfl
    | some i =>
      obtain ⟨hi, h1, _⟩ := List.findIdx?_eq_some_iff_getElem.1 hf
      have : (l.any fun x => decide (y = x)) = true := List.any_eq_true.2 ⟨_, List.getElem_mem hi, h1⟩
      rw [this]
      have d : decide ((0 : Int) ≤ (i : Int)) = true := decide_eq_true (by omega)
      simp [selim, d]
  · intro i hi
    have e1 : decide ((i : Int) < (l.length : Int)) = true := decide_eq_true (by omega)
    simp only [e1, cond_true, gidx_nat hi, Option.bind_some, w64_succ (i := i) (by omega), equalIt_ok (x := y) (y := l[i]) h]
    cases decide (y = l[i]) <;> rfl
  · simp
theorem implLogB_ok {a b : List Item} (sa : SmallS a) (sb : SmallS b) : M.impl_LogBetween a b = some (logBV a b) := by
  unfold M.impl_LogBetween logBV
  simp only [sa.impl, sb.impl, Option.bind_some]
  cases ha : okStore a with
  | false => simp
  | true =>
    cases hb : okStore b with
    | false => simp
    | true =>
      obtain ⟨la, ia, pa⟩ := okStore_iff.1 ha
      obtain ⟨lb, ib, pb⟩ := okStore_iff.1 hb
      simp only [Bool.not_true, cond_false, Option.bind_some, and_self, if_true]
      refine fold_bind (xs := a) (fun (s : List Ent) i => (s, i)) (fun s x => if (!hasK b x.1) = true then s ++ [dropE x] else s) (fun i s => s.length ≤ i) (fun s => s) (s0 := []) (by simp) ?_ ?_ ?_
      · intro s i hi hs
        have d1 : decide ((i : Int) < (a.length : Int)) = true := decide_eq_true (by omega)
        have hp := placeOf_ok (k := a[i].1) hb
        simp only [d1, cond_true, gidx_nat hi, Option.bind_some, hp, M.impl_dropChange_entry, w64_succ (i := i) (by omega)]
        rw [show (b.any fun y => y.1 == a[i].1) = hasK b a[i].1 from rfl]
        cases hasK b a[i].1 with
        | true => simp; omega
        | false =>
          simp only [Bool.not_false, cond_true]
          rw [gapp_ok (by simp; omega)]
          exact ⟨rfl, by simp; omega⟩
      · intro s _; simp
      · intro _
        rw [foldl_filterMap]
        have hA : ((a.filter fun x => !hasK b x.1).map dropE).length ≤ 16 := by
          rw [List.length_map]; exact Nat.le_trans (List.length_filter_le _ _) la
        refine fold_bind (xs := b) (fun (s : List Ent) i => (s, i)) (fun s y => if decide (atK a y.1 ≠ some y) = true then s ++ [putE y] else s) (fun i s => s.length ≤ 16 + i) (fun s => s) (s0 := [] ++ (a.filter fun x => !hasK b x.1).map dropE) (by simp at hA ⊢; omega) ?_ ?_ ?_
        · intro s i hi hs
          have d1 : decide ((i : Int) < (b.length : Int)) = true := decide_eq_true (by omega)
          have hiy := ib _ (List.getElem_mem hi)
          have hsz := sb.2 _ (List.getElem_mem hi)
          have hq : (a.any fun x => decide (b[i] = x)) = !decide (atK a b[i].1 ≠ some b[i]) := by
            rw [Bool.eq_iff_iff]
            simp only [List.any_eq_true, decide_eq_true_eq, Bool.not_eq_true', decide_eq_false_iff_not, ne_eq, Classical.not_not]
            rw [atK_iff pa]
            constructor
            · rintro ⟨x, hx, rfl⟩; exact ⟨hx, rfl⟩
            · rintro ⟨hx, _⟩; exact ⟨_, hx, rfl⟩
          simp only [d1, cond_true, gidx_nat hi, Option.bind_some, w64_succ (i := i) (by omega), hasIt_ok (l := a) (y := b[i]) (by omega) (by omega), hq, Bool.not_not]
          cases decide (atK a b[i].1 ≠ some b[i]) with
          | false => simp; omega
          | true =>
            unfold M.impl_putChange_entry
            simp only [cond_true, implCopy_ok (x := b[i]) (by omega), Option.bind_some]
            rw [gapp_ok (by simp; omega)]
            exact ⟨rfl, by simp; omega⟩
        · intro s _; simp
        · intro _
          rw [foldl_filterMap]; simp [logB, onlyA, turnB]

/-! ## What such a log does -/
theorem logB_len {a b : List Item} (ha : okStore a = true) (hb : okStore b = true) : (logB a b).length ≤ 32 := by
  unfold logB onlyA turnB
  rw [List.length_append, List.length_map, List.length_map]
  have h1 := List.length_filter_le (fun x : Item => !hasK b x.1) a
  have h2 := List.length_filter_le (fun y : Item => decide (atK a y.1 ≠ some y)) b
  have := (okStore_iff.1 ha).1
  have := (okStore_iff.1 hb).1
  omega
theorem logB_small {a b : List Item} (ha : okStore a = true) (hb : okStore b = true) : SmallE (logB a b) := by
  refine ⟨by have := logB_len ha hb; omega, fun e he => ?_⟩
  unfold logB at he
  rcases List.mem_append.1 he with he | he
  · obtain ⟨x, hx, rfl⟩ := List.mem_map.1 he
    simp [dropE]
  · obtain ⟨y, hy, rfl⟩ := List.mem_map.1 he
    have := isItem_len ((okStore_iff.1 hb).2.1 y (List.mem_filter.1 hy).1)
    show y.2.1.length ≤ 1048576
    omega
theorem logBV_small {a b : List Item} : SmallE (logBV a b) := by
  unfold logBV
  split
  · rename_i h; exact logB_small h.1 h.2
  · exact ⟨by simp, by simp⟩
end Go.Vs

namespace Go.Vs

end Go.Vs

namespace Go.Vs

abbrev Hist := List Ent × List Int
/-- Times that do not fall. -/
def okTimes (ts : List Int) : Bool := ts.all (fun t => decide (1 ≤ t ∧ t ≤ 1000)) && decide (ts.Pairwise (· ≤ ·))
def okHi (h : Hist) : Bool := okLg h.1 && (decide (h.2.length = h.1.length) && (okTimes h.2 && decide ((repL [] h.1).2 = h.1.length)))
/-- How many times there are up to one. -/
def upT (ts : List Int) (t : Int) : Nat := ts.countP fun x => decide (x ≤ t)
def storeAt (h : Hist) (t : Int) : List Item := if okHi h = true ∧ 0 ≤ t ∧ t ≤ 1000 then (repL [] (h.1.take (upT h.2 t))).1 else []
end Go.Vs

namespace Go.Vs

theorem eqEntry_self {x : Ent} (h : x.2.2.1.length < 2000000) : M.laws_eqEntry (x.1, (x.2.1, x.2.2.1, x.2.2.2)) (x.1, (x.2.1, x.2.2.1, x.2.2.2)) = some true := by
  unfold M.laws_eqEntry
  have := eqItem_self (x := x.2) h
  simp only [bne_self_eq_false, cond_false, this, Bool.not_true, Option.bind_some]
theorem eqEntryS_self {a : List Ent} (h : a.length < 2000000) (hx : ∀ x ∈ a, x.2.2.1.length < 2000000) : M.laws_eqEntryS a a = some true := by
  unfold M.laws_eqEntryS
  simp only [bne_self_eq_false, cond_false]
  rw [loop_all (xs := a) (P := fun _ => true) (r := false)]
  · simp [selim]
  · intro i hi
    have e1 : decide ((i : Int) < (a.length : Int)) = true := by simpa using hi
    have e2 : w64 ((i : Int) + 1) = (i : Int) + 1 := w64_id (by omega) (by omega)
    simp only [e1, cond_true, gidx_nat hi, Option.bind_some, eqEntry_self (hx _ (List.getElem_mem hi)), Bool.not_true, cond_false, e2, if_true]
  · simp
def upES : Int → List Ent → List Ent
  | _, [] => []
  | k, x :: xs => (k, k + 1, upFrom (k + 1 + 1) x.2.2.1.length, k + 1 + 1 + (x.2.2.1.length : Int)) :: upES (k + 1 + 1 + (x.2.2.1.length : Int) + 1) xs
def totE : List Ent → Nat
  | [] => 0
  | x :: xs => x.2.2.1.length + 3 + totE xs
theorem totE_le : ∀ {a : List Ent}, (∀ x ∈ a, x.2.2.1.length < 2000000) → totE a ≤ a.length * 2000003
  | [], _ => by simp [totE]
  | x :: xs, h => by
    have h1 := h x (by simp)
    have h2 := totE_le (a := xs) fun y hy => h y (by simp [hy])
    simp only [totE, List.length_cons]
    omega
theorem dmarkEntSB_ok : ∀ {a : List Ent} {k : Int}, (∀ x ∈ a, x.2.2.1.length < 2000000) → 0 ≤ k → k + (totE a : Int) ≤ 1900000000000000 → M.dmarkEntSB a k = some (k + (totE a : Int), upES k a)
  | [], k, _, _, _ => by simp [M.dmarkEntSB, totE, upES]
  | x :: xs, k, h, h0, h1 => by
    have hx := h x (by simp)
    have e : (totE (x :: xs) : Int) = (x.2.2.1.length : Int) + 3 + (totE xs : Int) := by simp [totE]
    rw [e] at h1 ⊢
    have e0 : w64 (k + 1) = k + 1 := w64_id (by omega) (by omega)
    have e1 : w64 (k + 1 + 1) = k + 1 + 1 := w64_id (by omega) (by omega)
    have e2 : w64 (k + 1 + 1 + (x.2.2.1.length : Int) + 1) = k + 1 + 1 + (x.2.2.1.length : Int) + 1 := w64_id (by omega) (by omega)
    simp only [M.dmarkEntSB, e0, e1, markIntS_ok (k := k + 1 + 1) hx (by omega) (by omega), Option.bind_some, e2, dmarkEntSB_ok (a := xs) (k := k + 1 + 1 + (x.2.2.1.length : Int) + 1) (fun y hy => h y (by simp [hy])) (by omega) (by omega), upES, Option.some.injEq, Prod.mk.injEq, and_true]
    omega
theorem heldES_ok {a : List Ent} {k : Int} (h : ∀ x ∈ a, x.2.2.1.length < 2000000) (hl : a.length < 2000000) (h0 : 0 ≤ k) (h1 : k + (totE a : Int) ≤ 1900000000000000) : M.laws_heldEntryS (upES k a) k = some (k + (totE a : Int)) := by
  unfold M.laws_heldEntryS
  have key : ∀ (b : List Ent) (i : Nat) (k' : Int), (∀ x ∈ b, x.2.2.1.length < 2000000) → (upES k a).drop i = upES k' b → i < 3000000 → i + b.length < 2000000 → 0 ≤ k' → k' + (totE b : Int) = k + (totE a : Int) → loopM (fun (s2 : (Int) × (Int)) => (bif decide (s2.2 < ((upES k a).length : Int)) then
  (gidx (upES k a) s2.2).bind fun x5 =>
  (bif x5.1 != s2.1 then
  some (.inr (.inr (-1)))
 else
  (gidx (upES k a) s2.2).bind fun x12 =>
  (bif x12.2.1 != (w64 (s2.1 + 1)) then
  some (.inr (.inr (-1)))
 else
  (gidx (upES k a) s2.2).bind fun x19 =>
  (M.laws_heldIntS x19.2.2.1 (w64 ((w64 (s2.1 + 1)) + 1))).bind fun r29 =>
  (bif decide (r29 < 0) then
  some (.inr (.inr (-1)))
 else
  (gidx (upES k a) s2.2).bind fun x34 =>
  (bif x34.2.2.2 != r29 then
  some (.inr (.inr (-1)))
 else
  some (.inl (w64 (r29 + 1), w64 (s2.2 + 1)))))))
 else
  some (.inr (.inl s2.1)))) (k', (i : Int)) = some (.inl (k + (totE a : Int)) : Int ⊕ Int) := by
    intro b
    induction b with
    | nil =>
      intro i k' _ hd _ _ _ hk
      have hle : (upES k a).length ≤ i := List.drop_eq_nil_iff.1 hd
      have d1 : decide ((i : Int) < ((upES k a).length : Int)) = false := decide_eq_false (by omega)
      rw [loopM_eq]
      simp only [d1, cond_false, Option.bind_some, selim]
      simp only [totE] at hk
      rw [← hk]; simp
    | cons x b ih =>
      intro i k' hx hd hi hib hk0 hk
      have hxl := hx x (by simp)
      have hlt : i < (upES k a).length := by
        have := congrArg List.length hd
        simp [upES] at this; omega
      have d1 : decide ((i : Int) < ((upES k a).length : Int)) = true := decide_eq_true (by omega)
      have e : (totE (x :: b) : Int) = (x.2.2.1.length : Int) + 3 + (totE b : Int) := by simp [totE]
      rw [e] at hk
      have e0 : w64 (k' + 1) = k' + 1 := w64_id (by omega) (by omega)
      have e1 : w64 (k' + 1 + 1) = k' + 1 + 1 := w64_id (by omega) (by omega)
      have d2 : decide (k' + 1 + 1 + (x.2.2.1.length : Int) < 0) = false := decide_eq_false (by omega)
      have e2 : w64 (k' + 1 + 1 + (x.2.2.1.length : Int) + 1) = k' + 1 + 1 + (x.2.2.1.length : Int) + 1 := w64_id (by omega) (by omega)
      rw [loopM_eq]
      simp only [d1, cond_true, gidx_drop hd, Option.bind_some, bne_self_eq_false, cond_false, e0, e1, heldIntS_ok (k := k' + 1 + 1) hxl (by omega) (by omega), d2, e2, selim, w64_succ (i := i) (by omega)]
      refine ih (i + 1) _ (fun y hy => hx y (by simp [hy])) (drop_next hd) (by simp at hib; omega) (by simp at hib; omega) (by omega) (by omega)
  have := key a 0 k h rfl (by omega) (by omega) h0 rfl
  simp only [Int.cast_ofNat_Int] at this
  rw [this]; rfl
theorem markEntB_ok {a : List Ent} {k : Int} (h : a.length < 2000000) (hx : ∀ x ∈ a, x.2.2.1.length < 2000000) (h0 : 0 ≤ k) (h1 : k ≤ 100000000000000) :
    ∃ r ys, M.markEntB a k = some (r, ys) ∧ k ≤ r ∧ r ≤ k + 5000000000000 ∧ M.laws_heldEntryS ys k = some r := by
  have ht := totE_le hx
  have hb : a.length * 2000003 ≤ 5000000000000 := by omega
  refine ⟨k + (totE a : Int), upES k a, ?_, by omega, by omega, heldES_ok hx h h0 (by omega)⟩
  unfold M.markEntB
  rw [if_pos (by omega), dmarkEntSB_ok hx h0 (by omega)]
end Go.Vs

namespace Go.Vs

/-! ## Pairs -/
end Go.Vs

namespace Go.Vs

end Go.Vs

namespace Go.Vs

/-! ## Walks -/
end Go.Vs

namespace Go.Vs

/-! ## Reach -/
end Go.Vs

namespace Go.Vs

/-! ## The closest pair -/
end Go.Vs

namespace Go.Vs

end Go.Vs

namespace Go.Vs

/-! ## Bit by bit -/
/-! ## Filtered stores -/
/-! ## Two filters as one -/
end Go.Vs

namespace Go.Vs

end Go.Vs

namespace Go.Vs

theorem law_ExactLogBetween (a b : List Item) (ha : OkIs a) (hb : OkIs b) : M.laws_FnExactLogBetween a b = some true := by
  unfold M.laws_FnExactLogBetween
  obtain ⟨t, et, ht⟩ := szItemS2_ok (left := 1048576) ha.1 (fun x hx => (ha.2 x hx).2.1.1) (by omega) (by omega)
  simp only [et, Option.bind_some]
  rcases ht with ht | ⟨g0, gl, g1, g2⟩
  · simp [ht]
  have hm : ¬ t < 0 := by omega
  obtain ⟨t', et', ht'⟩ := szItemS_ok (left := t) hb.1 (fun x hx => (hb.2 x hx).2.1.1) (by omega) (by omega)
  simp only [hm, decide_false, cond_false, et', Option.bind_some]
  rcases ht' with ht' | ⟨g0', g1', g2'⟩
  · simp [ht']
  have hm' : ¬ t' < 0 := by omega
  have sa : SmallS a := ⟨by omega, fun x hx => by have := g2 x hx; omega⟩
  have sb : SmallS b := ⟨by omega, fun x hx => by have := g2' x hx; omega⟩
  have sm := logBV_small (a := a) (b := b)
  have sm1 : (logBV a b).length < 2000000 := by have := sm.1; omega
  have sm2 : ∀ x ∈ logBV a b, x.2.2.1.length < 2000000 := fun x hx => by have := sm.2 x hx; omega
  obtain ⟨p, hp, p1, p2⟩ := markItemD_at (a := a) (k := 1) (by omega) (fun x hx => by have := g2 x hx; omega) (by omega) (by omega)
  obtain ⟨p', hp', p1', p2'⟩ := markItemD_at (a := b) (k := p) (by omega) (fun x hx => by have := g2' x hx; omega) (by omega) (by omega)
  obtain ⟨q, ys, hq, q1, q2, hh⟩ := markEntB_ok (k := 1) sm1 sm2 (by omega) (by omega)
  have hn1 : ¬ p' < 0 := by omega
  have hn2 : ¬ q < 0 := by omega
  simp only [hm', decide_false, cond_false, dItemS_ok (a := a) (by omega) (fun x hx => by have := g2 x hx; omega), dItemS_ok (a := b) (by omega) (fun x hx => by have := g2' x hx; omega), Option.bind_some, specLogB_ok sa sb, implLogB_ok sa sb, Bool.not_true, eqEntryS_self sm1 sm2, eqItemS_self sa.hL sa.hb, eqItemS_self sb.hL sb.hb, hp, hp', hn1, hq, hh, hn2, bne_self_eq_false]
end Go.Vs
