/- Plain facts of what the functions compute. -/
import Derived.Test.YtjcaokajkkkniacExactCodeDistancesEng1
import Derived.Test.YtjcaokajkkkniacExactCodeDistancesLib1
set_option linter.unusedVariables false
set_option linter.unusedSimpArgs false
namespace Go.Vs

theorem loop_run {S R : Type} {f : S → Option (S ⊕ R)} {r : R} (k : Nat) (st : Nat → S) (hs : ∀ i, i < k → f (st i) = some (.inl (st (i + 1)))) (he : f (st k) = some (.inr r)) : loopM f (st 0) = some r := by
  induction k generalizing st with
  | zero => rw [loopM_eq, he]; rfl
  | succ k ih =>
    rw [loopM_eq, hs 0 (by omega)]
    exact ih (fun i => st (i + 1)) (fun i hi => hs (i + 1) (by omega)) he

theorem gidx_nat {α : Type} {xs : List α} {i : Nat} (h : i < xs.length) : gidx xs (i : Int) = some xs[i] := by
  unfold gidx
  rw [if_pos (by omega)]
  simp [h]
theorem gapp_ok {α : Type} {xs ys : List α} (h : xs.length + ys.length ≤ 2147483648) : gapp xs ys = some (xs ++ ys) := by unfold gapp; rw [if_pos h]
theorem gslice_ok {α : Type} {xs : List α} {l h : Int} (h0 : 0 ≤ l) (h1 : l ≤ h) (h2 : h ≤ xs.length) : gslice xs l h = some ((xs.take h.toNat).drop l.toNat) := by
  unfold gslice; rw [if_pos ⟨h0, h1, h2⟩]
theorem gmake_ok {α : Type} {k : Int} {z : α} (h0 : 0 ≤ k) (h1 : k ≤ 2147483648) : gmake k z = some (List.replicate k.toNat z) := by unfold gmake; rw [if_pos ⟨h0, h1⟩]
theorem loop_all {α R : Type} {xs : List α} {P : α → Bool} {r : R} {f : Int → Option (Int ⊕ (Unit ⊕ R))} (hs : ∀ i (h : i < xs.length), f (i : Int) = some (if P xs[i] then .inl ((i : Int) + 1) else .inr (.inr r))) (he : f (xs.length : Int) = some (.inr (.inl ()))) :
    loopM f 0 = some (if xs.all P then .inl () else .inr r) := by
  have key : ∀ m k : Nat, k + m = xs.length → loopM f (k : Int) = some (if (xs.drop k).all P then .inl () else .inr r) := by
    intro m
    induction m with
    | zero =>
      intro k hk
      have : k = xs.length := by omega
      subst this
      rw [loopM_eq, he]; simp [selim]
    | succ m ih =>
      intro k hk
      have hlt : k < xs.length := by omega
      rw [loopM_eq, hs k hlt, List.drop_eq_getElem_cons hlt]
      by_cases hp : P xs[k] = true
      · rw [if_pos hp]
        have := ih (k + 1) (by omega)
        simp only [Int.natCast_add, Int.cast_ofNat_Int] at this
        simp only [List.all_cons, hp, Bool.true_and, selim, this, Option.bind_some]
      · rw [if_neg hp]
        simp only [List.all_cons, Bool.not_eq_true] at hp ⊢
        simp only [hp, Bool.false_and, selim, Option.bind_some]; rfl
  have := key xs.length 0 (by omega)
  simpa using this
end Go.Vs

namespace Go.Vs

def Good (k : Nat) (r : List UInt8 × Int) : Prop := r.1.length ≤ 2000 ∧ 0 ≤ r.2 ∧ r.2 ≤ k
theorem Good.mono {k m : Nat} {r : List UInt8 × Int} (h : Good k r) (hm : k ≤ m) : Good m r := ⟨h.1, h.2.1, by have := h.2.2; omega⟩

def isVec (v : List Int) : Bool := decide (v.length = 4) && v.all fun x => decide (-100 ≤ x) && decide (x ≤ 100)
theorem isVec_iff {v : List Int} : isVec v = true ↔ v.length = 4 ∧ ∀ x ∈ v, -100 ≤ x ∧ x ≤ 100 := by
  unfold isVec; simp
theorem isVec_four {v : List Int} (h : isVec v = true) : ∃ a b c d, v = [a, b, c, d] ∧ (-100 ≤ a ∧ a ≤ 100) ∧ (-100 ≤ b ∧ b ≤ 100) ∧ (-100 ≤ c ∧ c ≤ 100) ∧ (-100 ≤ d ∧ d ≤ 100) := by
  obtain ⟨h1, h2⟩ := isVec_iff.1 h
  match v, h1 with
  | [a, b, c, d], _ => exact ⟨a, b, c, d, rfl, h2 a (by simp), h2 b (by simp), h2 c (by simp), h2 d (by simp)⟩

end Go.Vs
namespace Go.Vs
def Near (v : List Int) : Prop := v.length ≤ 5 ∧ ∀ x ∈ v, -101 ≤ x ∧ x ≤ 101
theorem implCoords_ok (v : List Int) (hb : v.length < 2000000) : M.impl_validCoords v = some (v.all fun x => decide (-100 ≤ x) && decide (x ≤ 100)) := by
  unfold M.impl_validCoords
  rw [loop_all (xs := v) (P := fun x => decide (-100 ≤ x) && decide (x ≤ 100)) (r := false)]
  · by_cases ha : (v.all fun x => decide (-100 ≤ x) && decide (x ≤ 100)) = true
    · simp only [ha, if_true, Option.bind_some, selim]
    · simp only [Bool.not_eq_true] at ha
      simp only [ha]; simp [selim]
  · intro i h
    have e1 : decide ((i : Int) < (v.length : Int)) = true := by simpa using h
    have e2 : w64 ((i : Int) + 1) = (i : Int) + 1 := w64_id (by omega) (by omega)
    simp only [e1, cond_true, gidx_nat h, Option.bind_some, e2]
    by_cases c1 : v[i] < -100
    · have c2 : ¬ (-100 ≤ v[i]) := by omega
      simp [c1, c2]
    · by_cases c3 : 100 < v[i]
      · have c4 : ¬ (v[i] ≤ 100) := by omega
        simp [c1, c3, c4]
      · simp [c1, c3, show -100 ≤ v[i] by omega, show v[i] ≤ 100 by omega]
  · simp
theorem impl_valid (v : List Int) (hb : v.length < 2000000) : M.impl_ValidVector v = some (isVec v) := by
  unfold M.impl_ValidVector
  simp only [implCoords_ok v hb, Option.bind_some]
  unfold isVec
  by_cases hl : v.length = 4
  · have e : ((v.length : Int) == 4) = true := by simp; omega
    rw [e, cond_true, decide_eq_true hl, Bool.true_and]
  · have e : ((v.length : Int) == 4) = false := by simp; omega
    rw [e, cond_false, decide_eq_false hl, Bool.false_and]
theorem spec_inR (n l h : Int) : M.spec_inRange n l h = some (decide (l ≤ n) && decide (n ≤ h)) := by
  unfold M.spec_inRange
  by_cases h1 : l ≤ n <;> simp [h1]
theorem spec_all (v : List Int) (l h : Int) (hb : v.length < 2000000) : M.spec_allIn v l h = some (v.all fun x => decide (l ≤ x) && decide (x ≤ h)) := by
  unfold M.spec_allIn
  rw [loop_all (xs := v) (P := fun x => decide (l ≤ x) && decide (x ≤ h)) (r := false)]
  · by_cases ha : (v.all fun x => decide (l ≤ x) && decide (x ≤ h)) = true
    · simp only [ha, if_true, Option.bind_some, selim]
    · simp only [Bool.not_eq_true] at ha
      simp [ha, selim]
  · intro i hi
    have e1 : decide ((i : Int) < (v.length : Int)) = true := by simpa using hi
    have e2 : w64 ((i : Int) + 1) = (i : Int) + 1 := w64_id (by omega) (by omega)
    simp only [e1, cond_true, gidx_nat hi, Option.bind_some, e2, spec_inR]
    cases (decide (l ≤ v[i]) && decide (v[i] ≤ h)) <;> rfl
  · simp
theorem spec_isVec (v : List Int) (hb : v.length < 2000000) : M.spec_isVector v = some (isVec v) := by
  unfold M.spec_isVector
  by_cases hl : v.length = 4
  · have e : ((v.length : Int) == 4) = true := by simp; omega
    simp [e, spec_all v _ _ hb, isVec, hl]
  · have e : ((v.length : Int) == 4) = false := by simp; omega
    simp [e, isVec, hl]
end Go.Vs

namespace Go.Vs

end Go.Vs

namespace Go.Vs

theorem loop4 {S R : Type} {f : S → Option (S ⊕ R)} {s0 s1 s2 s3 s4 : S} {r : R} (h0 : f s0 = some (.inl s1)) (h1 : f s1 = some (.inl s2)) (h2 : f s2 = some (.inl s3)) (h3 : f s3 = some (.inl s4)) (h4 : f s4 = some (.inr r)) : loopM f s0 = some r := by
  rw [loopM_eq, h0, Option.bind_some, selim, loopM_eq, h1, Option.bind_some, selim, loopM_eq, h2, Option.bind_some, selim, loopM_eq, h3, Option.bind_some, selim, loopM_eq, h4]; rfl
theorem gi0 {α : Type} {a : α} {l : List α} : gidx (a :: l) 0 = some a := gidx_nat (i := 0) (by simp)
theorem gi1 {α : Type} {a b : α} {l : List α} : gidx (a :: b :: l) 1 = some b := gidx_nat (i := 1) (by simp)
theorem gi2 {α : Type} {a b c : α} {l : List α} : gidx (a :: b :: c :: l) 2 = some c := gidx_nat (i := 2) (by simp)
theorem gi3 {α : Type} {a b c d : α} {l : List α} : gidx (a :: b :: c :: d :: l) 3 = some d := gidx_nat (i := 3) (by simp)
theorem i01 : w64 ((0 : Int) + 1) = 1 := w64_id (by omega) (by omega)
theorem i12 : w64 ((1 : Int) + 1) = 2 := w64_id (by omega) (by omega)
theorem i23 : w64 ((2 : Int) + 1) = 3 := w64_id (by omega) (by omega)
theorem i34 : w64 ((3 : Int) + 1) = 4 := w64_id (by omega) (by omega)
theorem d04 : decide ((0 : Int) < 4) = true := rfl
theorem d14 : decide ((1 : Int) < 4) = true := rfl
theorem d24 : decide ((2 : Int) < 4) = true := rfl
theorem d34 : decide ((3 : Int) < 4) = true := rfl
theorem d44 : decide ((4 : Int) < 4) = false := rfl
theorem l4 {α : Type} {a b c d : α} : (([a, b, c, d] : List α).length : Int) = 4 := rfl

def gap (x y : Int) : Int := max (x - y) (y - x)
theorem gap_nonneg (x y : Int) : 0 ≤ gap x y := by unfold gap; omega
def Co (x : Int) : Prop := -100 ≤ x ∧ x ≤ 100
theorem gap_le {x y : Int} (hx : Co x) (hy : Co y) : gap x y ≤ 200 := by unfold gap; unfold Co at hx hy; omega
theorem sq_bounds {g : Int} (h0 : 0 ≤ g) (h : g ≤ 200) : 0 ≤ g * g ∧ g ≤ g * g ∧ g * g ≤ 40000 := by
  refine ⟨Int.mul_nonneg h0 h0, ?_, ?_⟩
  · by_cases h1 : g = 0
    · subst h1; simp
    · have := Int.mul_le_mul_of_nonneg_right (show (1 : Int) ≤ g by omega) h0; omega
  · have := Int.mul_le_mul h h h0 (by omega); omega
def dk (k g0 g1 g2 g3 : Int) : Int :=
  if k = 1 then g0 + g1 + g2 + g3 else if k = 2 then max (max (max (max 0 g0) g1) g2) g3 else if k = 3 then g0 * g0 + g1 * g1 + g2 * g2 + g3 * g3 else if k = 4 then min g0 1 + min g1 1 + min g2 1 + min g3 1 else -1

theorem specDist_ok {k : Int} (hk : 1 ≤ k ∧ k ≤ 4) {a b c d x y z w : Int} (ha : Co a) (hb : Co b) (hc : Co c) (hd : Co d) (hx : Co x) (hy : Co y) (hz : Co z) (hw : Co w) :
    M.spec_dist k [a, b, c, d] [x, y, z, w] = some (dk k (gap a x) (gap b y) (gap c z) (gap d w)) := by
  have e : ∀ p q, Co p → Co q → M.spec_size (w64 (p - q)) = some (gap p q) := by
    intro p q hp hq
    unfold Co at hp hq
    unfold M.spec_size
    rw [w64_id (n := p - q) (by omega) (by omega), w64_id (n := 0 - (p - q)) (by omega) (by omega)]
    unfold gap
    congr 1; omega
  have t : ∀ g : Int, 0 ≤ g → M.spec_toInt (decide (0 < g)) = some (min g 1) := by
    intro g hg
    unfold M.spec_toInt
    by_cases h : 0 < g
    · simp [h]; omega
    · simp [h]; omega
  have ea := e a x ha hx
  have eb := e b y hb hy
  have ec := e c z hc hz
  have ed := e d w hd hw
  have h0 := gap_nonneg a x
  have h1 := gap_nonneg b y
  have h2 := gap_nonneg c z
  have h3 := gap_nonneg d w
  have h0' := gap_le ha hx
  have h1' := gap_le hb hy
  have h2' := gap_le hc hz
  have h3' := gap_le hd hw
  generalize gap a x = g0 at *
  generalize gap b y = g1 at *
  generalize gap c z = g2 at *
  generalize gap d w = g3 at *
  have s0 := sq_bounds h0 h0'
  have s1 := sq_bounds h1 h1'
  have s2 := sq_bounds h2 h2'
  have s3 := sq_bounds h3 h3'
  unfold M.spec_dist
  by_cases k1 : k = 1
  · subst k1
    have e0 : w64 (0 + g0) = g0 := by rw [w64_id (by omega) (by omega)]; omega
    have e1 : w64 (g0 + g1) = g0 + g1 := w64_id (by omega) (by omega)
    have e2 : w64 (g0 + g1 + g2) = g0 + g1 + g2 := w64_id (by omega) (by omega)
    have e3 : w64 (g0 + g1 + g2 + g3) = g0 + g1 + g2 + g3 := w64_id (by omega) (by omega)
    rw [loop4 (s1 := (g0, 1)) (s2 := (g0 + g1, 2)) (s3 := (g0 + g1 + g2, 3)) (s4 := (g0 + g1 + g2 + g3, 4)) (r := g0 + g1 + g2 + g3)]
    · rfl
    · simp only [l4, d04, gi0, i01, e0, ea, cond_true, Option.bind_some]; rfl
    · simp only [l4, d14, gi1, i12, e1, eb, cond_true, Option.bind_some]; rfl
    · simp only [l4, d24, gi2, i23, e2, ec, cond_true, Option.bind_some]; rfl
    · simp only [l4, d34, gi3, i34, e3, ed, cond_true, Option.bind_some]; rfl
    · simp [l4, d44]
  by_cases k2 : k = 2
  · subst k2
    rw [loop4 (s1 := (max 0 g0, 1)) (s2 := (max (max 0 g0) g1, 2)) (s3 := (max (max (max 0 g0) g1) g2, 3)) (s4 := (max (max (max (max 0 g0) g1) g2) g3, 4)) (r := max (max (max (max 0 g0) g1) g2) g3)]
    · rfl
    · simp only [l4, d04, gi0, i01, ea, cond_true, Option.bind_some]; rfl
    · simp only [l4, d14, gi1, i12, eb, cond_true, Option.bind_some]; rfl
    · simp only [l4, d24, gi2, i23, ec, cond_true, Option.bind_some]; rfl
    · simp only [l4, d34, gi3, i34, ed, cond_true, Option.bind_some]; rfl
    · simp [l4, d44]
  by_cases k3 : k = 3
  · subst k3
    have q0 : w64 (g0 * g0) = g0 * g0 := w64_id (by omega) (by omega)
    have q1 : w64 (g1 * g1) = g1 * g1 := w64_id (by omega) (by omega)
    have q2 : w64 (g2 * g2) = g2 * g2 := w64_id (by omega) (by omega)
    have q3 : w64 (g3 * g3) = g3 * g3 := w64_id (by omega) (by omega)
    have e0 : w64 (0 + g0 * g0) = g0 * g0 := by rw [w64_id (by omega) (by omega)]; omega
    have e1 : w64 (g0 * g0 + g1 * g1) = g0 * g0 + g1 * g1 := w64_id (by omega) (by omega)
    have e2 : w64 (g0 * g0 + g1 * g1 + g2 * g2) = g0 * g0 + g1 * g1 + g2 * g2 := w64_id (by omega) (by omega)
    have e3 : w64 (g0 * g0 + g1 * g1 + g2 * g2 + g3 * g3) = g0 * g0 + g1 * g1 + g2 * g2 + g3 * g3 := w64_id (by omega) (by omega)
    rw [loop4 (s1 := (g0 * g0, 1)) (s2 := (g0 * g0 + g1 * g1, 2)) (s3 := (g0 * g0 + g1 * g1 + g2 * g2, 3)) (s4 := (g0 * g0 + g1 * g1 + g2 * g2 + g3 * g3, 4)) (r := g0 * g0 + g1 * g1 + g2 * g2 + g3 * g3)]
    · rfl
    · simp only [l4, d04, gi0, i01, e0, q0, ea, cond_true, Option.bind_some]; rfl
    · simp only [l4, d14, gi1, i12, e1, q1, eb, cond_true, Option.bind_some]; rfl
    · simp only [l4, d24, gi2, i23, e2, q2, ec, cond_true, Option.bind_some]; rfl
    · simp only [l4, d34, gi3, i34, e3, q3, ed, cond_true, Option.bind_some]; rfl
    · simp [l4, d44]
  · have k4 : k = 4 := by omega
    subst k4
    have e0 : w64 (0 + min g0 1) = min g0 1 := by rw [w64_id (by omega) (by omega)]; omega
    have e1 : w64 (min g0 1 + min g1 1) = min g0 1 + min g1 1 := w64_id (by omega) (by omega)
    have e2 : w64 (min g0 1 + min g1 1 + min g2 1) = min g0 1 + min g1 1 + min g2 1 := w64_id (by omega) (by omega)
    have e3 : w64 (min g0 1 + min g1 1 + min g2 1 + min g3 1) = min g0 1 + min g1 1 + min g2 1 + min g3 1 := w64_id (by omega) (by omega)
    rw [loop4 (s1 := (min g0 1, 1)) (s2 := (min g0 1 + min g1 1, 2)) (s3 := (min g0 1 + min g1 1 + min g2 1, 3)) (s4 := (min g0 1 + min g1 1 + min g2 1 + min g3 1, 4)) (r := min g0 1 + min g1 1 + min g2 1 + min g3 1)]
    · rfl
    · simp only [l4, d04, gi0, i01, e0, ea, t g0 h0, cond_true, Option.bind_some]; simp only [show ((4 : Int) == 1) = false from rfl, show ((4 : Int) == 2) = false from rfl, show ((4 : Int) == 3) = false from rfl, cond_false, Option.bind_some, t g0 h0, e0]
    · simp only [l4, d14, gi1, i12, e1, eb, t g1 h1, cond_true, Option.bind_some]; simp only [show ((4 : Int) == 1) = false from rfl, show ((4 : Int) == 2) = false from rfl, show ((4 : Int) == 3) = false from rfl, cond_false, Option.bind_some, t g1 h1, e1]
    · simp only [l4, d24, gi2, i23, e2, ec, t g2 h2, cond_true, Option.bind_some]; simp only [show ((4 : Int) == 1) = false from rfl, show ((4 : Int) == 2) = false from rfl, show ((4 : Int) == 3) = false from rfl, cond_false, Option.bind_some, t g2 h2, e2]
    · simp only [l4, d34, gi3, i34, e3, ed, t g3 h3, cond_true, Option.bind_some]; simp only [show ((4 : Int) == 1) = false from rfl, show ((4 : Int) == 2) = false from rfl, show ((4 : Int) == 3) = false from rfl, cond_false, Option.bind_some, t g3 h3, e3]
    · simp [l4, d44]
end Go.Vs

namespace Go.Vs

def dist (k : Int) (a b : List Int) : Int :=
  if isVec a = true ∧ isVec b = true then dk k (gap (a.getD 0 0) (b.getD 0 0)) (gap (a.getD 1 0) (b.getD 1 0)) (gap (a.getD 2 0) (b.getD 2 0)) (gap (a.getD 3 0) (b.getD 3 0)) else -1
theorem dist_vec {k : Int} {a b c d x y z w : Int} (ha : isVec [a, b, c, d] = true) (hb : isVec [x, y, z, w] = true) : dist k [a, b, c, d] [x, y, z, w] = dk k (gap a x) (gap b y) (gap c z) (gap d w) := by
  unfold dist; rw [if_pos ⟨ha, hb⟩]; rfl
theorem isVec_cut {v : List Int} (h : isVec v = true) : ∃ a b c d, v = [a, b, c, d] ∧ Co a ∧ Co b ∧ Co c ∧ Co d := isVec_four h

theorem equalInts_ok {a b : List Int} (ha : a.length < 2000000) : M.laws_equalInts a b = some (decide (a = b)) := by
  unfold M.laws_equalInts
  by_cases hl : a.length = b.length
  · have e : ((a.length : Int) != (b.length : Int)) = false := by simp; omega
    simp only [e, cond_false]
    rw [loop_all (xs := a.zip b) (P := fun p => p.1 == p.2) (r := false)]
    · by_cases h : a = b
      · subst h
        have : (a.zip a).all (fun p => p.1 == p.2) = true := by
          rw [List.all_eq_true]; intro p hp
          obtain ⟨i, hi, rfl⟩ := List.mem_iff_getElem.1 hp
          simp
        rw [if_pos this]; simp [selim]
      · have : ¬ (a.zip b).all (fun p => p.1 == p.2) = true := by
          intro hh; apply h
          apply List.ext_getElem hl
          intro i h1 h2
          rw [List.all_eq_true] at hh
          have := hh (a[i], b[i]) (List.mem_iff_getElem.2 ⟨i, by simp; omega, by simp⟩)
          simpa using this
        rw [if_neg this]; simp [selim, h]
    · intro i hi
      have hi1 : i < a.length := by simp at hi; omega
      have hi2 : i < b.length := by simp at hi; omega
      have e1 : decide ((i : Int) < (a.length : Int)) = true := by simpa using hi1
      have e2 : w64 ((i : Int) + 1) = (i : Int) + 1 := w64_id (by omega) (by omega)
      simp only [e1, cond_true, gidx_nat hi1, gidx_nat hi2, Option.bind_some, e2, List.getElem_zip]
      by_cases hc : a[i] = b[i]
      · simp [hc]
      · have hb : (a[i] == b[i]) = false := by simpa using hc
        have hb' : (a[i] != b[i]) = true := by simpa using hc
        simp [hb, hb']
    · have : (a.zip b).length = a.length := by simp; omega
      rw [this]; simp
  · have e : ((a.length : Int) != (b.length : Int)) = true := by simp; omega
    have : a ≠ b := fun h => hl (by rw [h])
    simp [e, this]

structure Gaps (g0 g1 g2 g3 : Int) : Prop where
  n0 : 0 ≤ g0
  n1 : 0 ≤ g1
  n2 : 0 ≤ g2
  n3 : 0 ≤ g3
  m0 : g0 ≤ 200
  m1 : g1 ≤ 200
  m2 : g2 ≤ 200
  m3 : g3 ≤ 200
end Go.Vs

namespace Go.Vs

end Go.Vs

namespace Go.Vs

end Go.Vs

namespace Go.Vs

end Go.Vs

namespace Go.Vs

end Go.Vs

namespace Go.Vs

theorem toIntS_ok {a : List Int} (h : a.length ≤ 1048576) : M.laws_toIntS a = some a := by
  unfold M.laws_toIntS
  rw [gmake_ok (by omega) (by omega)]
  simp only [Option.bind_some, Int.toNat_natCast]
  have hloop := loop_run (R := List Int) (f := fun (s10 : (List Int) × (Int)) => (bif decide (s10.2 < (a.length : Int)) then
  (gidx a s10.2).bind fun x18 =>
  (gidx s10.1 s10.2).bind fun x23 =>
  some (.inl ((s10.1.set s10.2.toNat x18), w64 (s10.2 + 1)))
 else
  some (.inr s10.1))) (r := a) a.length (fun i => (a.take i ++ List.replicate (a.length - i) 0, (i : Int))) (by
    intro i hi
    have e1 : decide ((i : Int) < (a.length : Int)) = true := by simpa using hi
    have e2 : w64 ((i : Int) + 1) = ((i + 1 : Nat) : Int) := w64_id (by omega) (by omega)
    have hl : i < (a.take i ++ List.replicate (a.length - i) (0 : Int)).length := by simp; omega
    simp only [e1, cond_true, gidx_nat hi, gidx_nat hl, Option.bind_some, e2, Int.toNat_natCast, Option.some.injEq, Sum.inl.injEq, Prod.mk.injEq, and_true]
    rw [List.take_succ_eq_append_getElem hi]
    have hr : List.replicate (a.length - i) (0 : Int) = 0 :: List.replicate (a.length - (i + 1)) 0 := by
      rw [show a.length - i = (a.length - (i + 1)) + 1 by omega, List.replicate_succ]
    rw [hr, List.set_append_right _ _ (by simp; omega)]
    have : i - (a.take i).length = 0 := by simp; omega
    rw [this]; simp only [List.set_cons_zero, List.append_assoc, List.cons_append, List.nil_append]) (by
    have e1 : decide (((a.length : Nat) : Int) < (a.length : Int)) = false := by simp
    simp only [e1, cond_false, List.take_length, Nat.sub_self, List.replicate_zero, List.append_nil])
  simp only [List.take_zero, List.nil_append, Nat.sub_zero, Int.cast_ofNat_Int] at hloop
  rw [hloop]; rfl
theorem eqIntS_ok {a b : List Int} (ha : a.length < 2000000) : M.laws_eqIntS a b = some (decide (a = b)) := equalInts_ok ha

end Go.Vs

namespace Go.Vs

end Go.Vs

namespace Go.Vs

abbrev Item := Int × (List Int) × Int
end Go.Vs

namespace Go.Vs

theorem szIntS_ok {a : List Int} {left : Int} (ha : a.length ≤ 9223372036854775807) (h0 : 0 ≤ left) (h1 : left ≤ 1048576) :
    ∃ s, M.laws_szIntS a left = some s ∧ (s < 0 ∨ (0 ≤ s ∧ s ≤ left ∧ a.length ≤ 1048576)) := by
  unfold M.laws_szIntS
  rw [w64_id (by omega) (by omega)]
  by_cases h : left - (a.length : Int) < 0
  · exact ⟨-1, by simp [h], .inl (by omega)⟩
  · exact ⟨left - a.length, by simp [h], .inr (by omega)⟩
end Go.Vs

namespace Go.Vs

theorem w64_succ {i : Nat} (h : i < 4000000000000000000) : w64 ((i : Int) + 1) = ((i + 1 : Nat) : Int) := w64_id (by omega) (by omega)

section
variable {α S T R U : Type} {xs : List α}
theorem loop_fold (st : S → Int → T) (g : S → α → S) (Inv : Nat → S → Prop) {fin : S → R} {f : T → Option (T ⊕ R)} {s0 : S} (h0 : Inv 0 s0)
    (hs : ∀ s i (h : i < xs.length), Inv i s → f (st s (i : Int)) = some (.inl (st (g s xs[i]) ((i + 1 : Nat) : Int))) ∧ Inv (i + 1) (g s xs[i]))
    (he : ∀ s, Inv xs.length s → f (st s (xs.length : Int)) = some (.inr (fin s))) :
    loopM f (st s0 0) = some (fin (xs.foldl g s0)) ∧ Inv xs.length (xs.foldl g s0) := by
  have key : ∀ m k : Nat, ∀ s, k + m = xs.length → Inv k s → loopM f (st s (k : Int)) = some (fin ((xs.drop k).foldl g s)) ∧ Inv xs.length ((xs.drop k).foldl g s) := by
    intro m
    induction m with
    | zero =>
      intro k s hk hi
      have : k = xs.length := by omega
      subst this
      rw [loopM_eq, he s hi]; simpa [selim] using hi
    | succ m ih =>
      intro k s hk hi
      have hlt : k < xs.length := by omega
      obtain ⟨h1, h2⟩ := hs s k hlt hi
      rw [loopM_eq, h1, List.drop_eq_getElem_cons hlt]
      exact ih (k + 1) _ (by omega) h2
  have := key xs.length 0 s0 (by omega) h0
  simpa using this
theorem fold_bind (st : S → Int → T) (g : S → α → S) (Inv : Nat → S → Prop) (fin : S → R) {f : T → Option (T ⊕ R)} {s0 : S} {k : R → Option U} {r : Option U} (h0 : Inv 0 s0)
    (hs : ∀ s i (h : i < xs.length), Inv i s → f (st s (i : Int)) = some (.inl (st (g s xs[i]) ((i + 1 : Nat) : Int))) ∧ Inv (i + 1) (g s xs[i]))
    (he : ∀ s, Inv xs.length s → f (st s (xs.length : Int)) = some (.inr (fin s)))
    (hk : Inv xs.length (xs.foldl g s0) → k (fin (xs.foldl g s0)) = r) : (loopM f (st s0 0)).bind k = r := by
  obtain ⟨h1, h2⟩ := loop_fold st g Inv (fin := fin) h0 hs he
  rw [h1]; exact hk h2
end

/-! ## Valid stores as lists that ascend -/
def SmallS (l : List Item) : Prop := l.length ≤ 1048576 ∧ ∀ x ∈ l, x.2.1.length ≤ 1048576
theorem SmallS.hb {l : List Item} (h : SmallS l) : ∀ x ∈ l, x.2.1.length < 2000000 := fun x hx => by have := h.2 x hx; omega
/-! ## Putting -/
/-! ## Draws -/
def NearI (x : Item) : Prop := (0 ≤ x.1 ∧ x.1 ≤ 100) ∧ Near x.2.1 ∧ -1 ≤ x.2.2 ∧ x.2.2 ≤ 16
end Go.Vs

namespace Go.Vs

end Go.Vs

namespace Go.Vs

section
variable {α S T R U : Type} {xs : List α}
end

end Go.Vs

namespace Go.Vs

/-! ## InBox -/
end Go.Vs

namespace Go.Vs

def isKind (k : Int) : Bool := decide (1 ≤ k) && decide (k ≤ 4)
theorem isKind_iff {k : Int} : isKind k = true ↔ 1 ≤ k ∧ k ≤ 4 := by unfold isKind; simp
theorem specDist_vec {k : Int} {a b : List Int} (hk : isKind k = true) (ha : isVec a = true) (hb : isVec b = true) : M.spec_dist k a b = some (dist k a b) := by
  obtain ⟨x0, x1, x2, x3, rfl, c0, c1, c2, c3⟩ := isVec_cut ha
  obtain ⟨y0, y1, y2, y3, rfl, e0, e1, e2, e3⟩ := isVec_cut hb
  rw [dist_vec ha hb]
  exact specDist_ok (isKind_iff.1 hk) c0 c1 c2 c3 e0 e1 e2 e3
end Go.Vs

namespace Go.Vs

/-! ## What is drawn -/
theorem NearI.le {x : Item} (h : NearI x) : x.2.1.length ≤ 1048576 := by have := h.2.1.1; omega
section
variable {code : List UInt8}
end
end Go.Vs

namespace Go.Vs

end Go.Vs

namespace Go.Vs

def upFrom (k : Int) (n : Nat) : List Int := (List.range n).map fun i : Nat => k + (i : Int)
theorem upFrom_len {k : Int} {n : Nat} : (upFrom k n).length = n := by simp [upFrom]
theorem upFrom_get {k : Int} {n i : Nat} (h : i < (upFrom k n).length) : (upFrom k n)[i] = k + (i : Int) := by simp [upFrom]
theorem markIntS_ok {a : List Int} {k : Int} (ha : a.length < 2000000) (h0 : 0 ≤ k) (h1 : k ≤ 2000000000000000) : M.laws_markIntS a k = some (k + (a.length : Int), upFrom k a.length) := by
  unfold M.laws_markIntS
  have hloop := loop_run (R := List Int × Int) (f := fun (s2 : (List Int) × (Int) × (Int)) => (bif decide (s2.2.2 < (s2.1.length : Int)) then
  (gidx s2.1 s2.2.2).bind fun x6 =>
  some (.inl ((s2.1.set s2.2.2.toNat s2.2.1), w64 (s2.2.1 + 1), w64 (s2.2.2 + 1)))
 else
  some (.inr (s2.1, s2.2.1)))) (r := (upFrom k a.length, k + (a.length : Int))) a.length (fun i => (upFrom k i ++ a.drop i, k + (i : Int), (i : Int))) (by
    intro i hi
    have hl : (upFrom k i ++ a.drop i).length = a.length := by rw [List.length_append, upFrom_len, List.length_drop]; omega
    have e1 : decide ((i : Int) < ((upFrom k i ++ a.drop i).length : Int)) = true := decide_eq_true (by omega)
    have e2 : w64 ((i : Int) + 1) = ((i + 1 : Nat) : Int) := w64_id (by omega) (by omega)
    have e3 : w64 (k + (i : Int) + 1) = k + ((i + 1 : Nat) : Int) := by rw [w64_id (by omega) (by omega)]; omega
    have hl' : i < (upFrom k i ++ a.drop i).length := by omega
    simp only [e1, cond_true, gidx_nat hl', Option.bind_some, e2, e3, Int.toNat_natCast, Option.some.injEq, Sum.inl.injEq, Prod.mk.injEq, and_true]
    rw [List.set_append_right _ _ (by rw [upFrom_len]; omega), upFrom_len, Nat.sub_self, List.drop_eq_getElem_cons hi, List.set_cons_zero]
    simp [upFrom, List.range_succ]) (by
    have e1 : decide (((a.length : Nat) : Int) < ((upFrom k a.length ++ a.drop a.length).length : Int)) = false := decide_eq_false (by rw [List.length_append, upFrom_len]; simp)
    simp only [List.drop_length, List.append_nil] at e1 ⊢
    simp only [e1, cond_false])
  simp only [upFrom, List.range_zero, List.map_nil, List.nil_append, List.drop_zero, Int.cast_ofNat_Int, Int.add_zero] at hloop
  rw [hloop]; rfl
theorem heldIntS_ok {n : Nat} {k : Int} (ha : n < 2000000) (h0 : 0 ≤ k) (h1 : k ≤ 2000000000000000) : M.laws_heldIntS (upFrom k n) k = some (k + (n : Int)) := by
  unfold M.laws_heldIntS
  have hloop := loop_run (R := Int ⊕ Int) (f := fun (s2 : (Int) × (Int)) => (bif decide (s2.2 < ((upFrom k n).length : Int)) then
  (gidx (upFrom k n) s2.2).bind fun x7 =>
  (bif x7 != s2.1 then
  some (.inr (.inr (-1)))
 else
  some (.inl (w64 (s2.1 + 1), w64 (s2.2 + 1))))
 else
  some (.inr (.inl s2.1)))) (r := .inl (k + (n : Int))) n (fun i => (k + (i : Int), (i : Int))) (by
    intro i hi
    have hl : i < (upFrom k n).length := by rw [upFrom_len]; exact hi
    have e1 : decide ((i : Int) < ((upFrom k n).length : Int)) = true := decide_eq_true (by omega)
    have e2 : w64 ((i : Int) + 1) = ((i + 1 : Nat) : Int) := w64_id (by omega) (by omega)
    have e3 : w64 (k + (i : Int) + 1) = k + ((i + 1 : Nat) : Int) := by rw [w64_id (by omega) (by omega)]; omega
    simp only [e1, cond_true, gidx_nat hl, upFrom_get, Option.bind_some, e2, e3, bne_self_eq_false, cond_false]) (by
    have e1 : decide ((n : Int) < ((upFrom k n).length : Int)) = false := decide_eq_false (by rw [upFrom_len]; omega)
    simp only [e1, cond_false])
  simp only [Int.cast_ofNat_Int, Int.add_zero] at hloop
  rw [hloop]; rfl
end Go.Vs

namespace Go.Vs

theorem dIntSS_ok {a : List (List Int)} (h : a.length ≤ 1048576) (hx : ∀ x ∈ a, x.length ≤ 1048576) : M.dIntSS a = some a := by
  unfold M.dIntSS
  rw [if_pos ⟨by omega, fun x hx' => toIntS_ok (hx x hx')⟩]
theorem dmarkIntSS_ok : ∀ (a : List (List Int)) (k : Int), (∀ x ∈ a, x.length ≤ 1048576) → 0 ≤ k → k + a.length * 1048578 ≤ 1999999999999990 → ∃ r, M.dmarkIntSS a k = some r ∧ k ≤ r ∧ r ≤ k + a.length * 1048578
  | [], k, _, _, _ => ⟨k, rfl, Int.le_refl _, by simp⟩
  | x :: a, k, hx, h0, h1 => by
    have hl := hx x (by simp)
    have h2 : ((x :: a).length : Int) = a.length + 1 := by simp
    rw [h2] at h1
    have hm := markIntS_ok (a := x) (k := k) (by omega) (by omega) (by omega)
    obtain ⟨r, hr, g1, g2⟩ := dmarkIntSS_ok a (k + (x.length : Int)) (fun y hy => hx y (by simp [hy])) (by omega) (by omega)
    refine ⟨r, ?_, by omega, by rw [h2]; omega⟩
    simp only [M.dmarkIntSS, hm, Option.bind_some, hr]
theorem markIntSD_ok {a : List (List Int)} (h : a.length ≤ 1048576) (hx : ∀ x ∈ a, x.length ≤ 1048576) : ∃ r, M.markIntSD a 1 = some r ∧ 1 ≤ r ∧ r ≤ 1100000000000 := by
  obtain ⟨r, hr, h1, h2⟩ := dmarkIntSS_ok a 1 hx (by omega) (by omega)
  refine ⟨r, ?_, h1, by omega⟩
  unfold M.markIntSD
  rw [if_pos (by omega), hr]
theorem markIntSD_at {a : List (List Int)} {k : Int} (h : a.length ≤ 1048576) (hx : ∀ x ∈ a, x.length ≤ 1048576) (h0 : 0 ≤ k) (h1 : k ≤ 100000000000000) : ∃ r, M.markIntSD a k = some r ∧ k ≤ r ∧ r ≤ k + 1100000000000 := by
  obtain ⟨r, hr, h1, h2⟩ := dmarkIntSS_ok a k hx (by omega) (by omega)
  refine ⟨r, ?_, h1, by omega⟩
  unfold M.markIntSD
  rw [if_pos (by omega), hr]
theorem one0 : (0 : Int) ≤ 1 := by omega
theorem one1 : (1 : Int) ≤ 2000000000000000 := by omega

theorem eqIntSS_self {a : List (List Int)} (h : a.length < 2000000) (hx : ∀ x ∈ a, x.length < 2000000) : M.laws_eqIntSS a a = some true := by
  unfold M.laws_eqIntSS
  simp only [bne_self_eq_false, cond_false]
  rw [loop_all (xs := a) (P := fun _ => true) (r := false)]
  · simp [selim]
  · intro i hi
    have e1 : decide ((i : Int) < (a.length : Int)) = true := by simpa using hi
    have e2 : w64 ((i : Int) + 1) = (i : Int) + 1 := w64_id (by omega) (by omega)
    simp only [e1, cond_true, gidx_nat hi, Option.bind_some, eqIntS_ok (hx _ (List.getElem_mem hi)), decide_true, Bool.not_true, cond_false, e2, if_true]
  · simp
end Go.Vs

namespace Go.Vs

noncomputable def G.sift {α : Type} (cmp : α → α → Option Int) (data_0 : List α) (lo_1 : Int) (hi_2 : Int) (first_3 : Int) : Option ((List α)) :=
  Option.bind (loopM (fun (s2 : (List α) × (Int)) => (bif decide (hi_2 ≤ (w64 ((w64 (2 * s2.2)) + 1))) then
  some (.inr (.inl s2.1))
 else
  Option.bind ((bif decide ((w64 ((w64 ((w64 (2 * s2.2)) + 1)) + 1)) < hi_2) then
  (gidx s2.1 (w64 (first_3 + (w64 ((w64 (2 * s2.2)) + 1))))).bind fun x8 =>
  (gidx s2.1 (w64 ((w64 (first_3 + (w64 ((w64 (2 * s2.2)) + 1)))) + 1))).bind fun x15 =>
  (cmp x8 x15).bind fun r23 =>
  some (decide (r23 < 0))
 else
  some false)) fun o6 =>
  Option.bind ((bif o6 then
  some (w64 ((w64 ((w64 (2 * s2.2)) + 1)) + 1))
 else
  some (w64 ((w64 (2 * s2.2)) + 1)))) fun o29 =>
  (gidx s2.1 (w64 (first_3 + s2.2))).bind fun x32 =>
  (gidx s2.1 (w64 (first_3 + o29))).bind fun x39 =>
  (cmp x32 x39).bind fun r47 =>
  (bif !(decide (r47 < 0)) then
  some (.inr (.inr s2.1))
 else
  (gidx s2.1 (w64 (first_3 + o29))).bind fun x52 =>
  (gidx s2.1 (w64 (first_3 + s2.2))).bind fun x59 =>
  (gidx s2.1 (w64 (first_3 + s2.2))).bind fun x66 =>
  (gidx (s2.1.set (w64 (first_3 + s2.2)).toNat x52) (w64 (first_3 + o29))).bind fun x72 =>
  some (.inl (((s2.1.set (w64 (first_3 + s2.2)).toNat x52).set (w64 (first_3 + o29)).toNat x59), o29))))) (data_0, lo_1)) (selim (fun t78 => some t78)
   (fun t81 => some t81))

noncomputable def G.heap {α : Type} (cmp : α → α → Option Int) (data_0 : List α) (a_1 : Int) (b_2 : Int) : Option ((List α)) :=
  Option.bind (loopM (fun (s2 : (List α) × (Int)) => (bif decide (0 ≤ s2.2) then
  (G.sift cmp s2.1 s2.2 (w64 (b_2 - a_1)) a_1).bind fun r6 =>
  some (.inl (r6, w64 (s2.2 - 1)))
 else
  some (.inr s2.1))) (data_0, w64 ((w64 ((w64 (b_2 - a_1)) - 1)).tdiv 2))) fun o1 =>
  Option.bind (loopM (fun (s14 : (List α) × (Int)) => (bif decide (0 ≤ s14.2) then
  (gidx s14.1 (w64 (a_1 + s14.2))).bind fun x18 =>
  (gidx s14.1 a_1).bind fun x25 =>
  (gidx s14.1 a_1).bind fun x32 =>
  (gidx (s14.1.set a_1.toNat x18) (w64 (a_1 + s14.2))).bind fun x38 =>
  (G.sift cmp ((s14.1.set a_1.toNat x18).set (w64 (a_1 + s14.2)).toNat x25) 0 s14.2 a_1).bind fun r44 =>
  some (.inl (r44, w64 (s14.2 - 1)))
 else
  some (.inr s14.1))) (o1, w64 ((w64 (b_2 - a_1)) - 1))) fun o13 =>
  some o13

noncomputable def G.o2 {α : Type} (cmp : α → α → Option Int) (data_0 : List α) (a_1 : Int) (b_2 : Int) (swaps_3 : Int) : Option (Int × Int × Int) :=
  (gidx data_0 b_2).bind fun x1 =>
  (gidx data_0 a_1).bind fun x8 =>
  (cmp x1 x8).bind fun r16 =>
  (bif decide (r16 < 0) then
  some (b_2, a_1, w64 (swaps_3 + 1))
 else
  some (a_1, b_2, swaps_3))

section
end
end Go.Vs

namespace Go.Vs

section
variable {α : Type} [Inhabited α]
def el (d : List α) (i : Nat) : α := d.getD i default
theorem el_lt {d : List α} {i : Nat} (h : i < d.length) : el d i = d[i] := by simp [el, List.getD, h]
structure PermR (a b : Nat) (d d' : List α) : Prop where
  len : d'.length = d.length
  out : ∀ i, i < a ∨ b ≤ i → el d' i = el d i
  perm : d'.Perm d
theorem PermR.refl {a b : Nat} (d : List α) : PermR a b d d := ⟨rfl, fun _ _ => rfl, List.Perm.refl _⟩
theorem PermR.trans {a b : Nat} {d d' d'' : List α} (h : PermR a b d d') (k : PermR a b d' d'') : PermR a b d d'' :=
  ⟨k.len.trans h.len, fun i hi => (k.out i hi).trans (h.out i hi), k.perm.trans h.perm⟩
theorem PermR.mono {a b a' b' : Nat} {d d' : List α} (h : PermR a b d d') (ha : a' ≤ a) (hb : b ≤ b') : PermR a' b' d d' :=
  ⟨h.len, fun i hi => h.out i (by omega), h.perm⟩
theorem PermR.mem {a b : Nat} {d d' : List α} (h : PermR a b d d') (hab : a ≤ b) (hb : b ≤ d.length) {i : Nat} (h1 : a ≤ i) (h2 : i < b) : ∃ j, a ≤ j ∧ j < b ∧ el d' i = el d j := by
  have cut : ∀ (e : List α), e.length = d.length → e = e.take a ++ ((e.take b).drop a ++ e.drop b) := by
    intro e he
    rw [← List.append_assoc]
    have : e.take a ++ (e.take b).drop a = e.take b := by
      have := List.take_append_drop a (e.take b)
      rwa [List.take_take, Nat.min_eq_left hab] at this
    rw [this, List.take_append_drop]
  have hl := h.len
  have e1 : d'.take a = d.take a := by
    apply List.ext_getElem
    · simp [hl]
    · intro k h3 h4
      simp only [List.length_take] at h3 h4
      rw [List.getElem_take, List.getElem_take, ← el_lt, ← el_lt]
      exact h.out k (by omega)
  have e2 : d'.drop b = d.drop b := by
    apply List.ext_getElem
    · simp [hl]
    · intro k h3 h4
      simp only [List.length_drop] at h3 h4
      rw [List.getElem_drop, List.getElem_drop, ← el_lt, ← el_lt]
      exact h.out (b + k) (by omega)
  have hp := h.perm
  rw [cut d' hl, cut d rfl, e1, e2] at hp
  have hp2 := (List.perm_append_right_iff _).1 ((List.perm_append_left_iff _).1 hp)
  have hm : el d' i ∈ (d'.take b).drop a := by
    rw [el_lt (by omega)]
    refine List.mem_iff_getElem.2 ⟨i - a, by simp; omega, ?_⟩
    simp only [List.getElem_drop, List.getElem_take]
    congr 1; omega
  have hm2 := hp2.mem_iff.1 hm
  obtain ⟨k, hk, e⟩ := List.mem_iff_getElem.1 hm2
  simp only [List.length_drop, List.length_take] at hk
  refine ⟨a + k, by omega, by omega, ?_⟩
  rw [← e, el_lt (by omega)]
  simp only [List.getElem_drop, List.getElem_take]
end

structure Lin {α : Type} (lt : α → α → Bool) (p : α → Prop) : Prop where
  irrefl : ∀ x, p x → lt x x = false
  trans : ∀ x y z, p x → p y → p z → lt x y = true → lt y z = true → lt x z = true
  total : ∀ x y, p x → p y → x ≠ y → lt x y = true ∨ lt y x = true
theorem Lin.asymm {α : Type} {lt : α → α → Bool} {p : α → Prop} (h : Lin lt p) {x y : α} (hx : p x) (hy : p y) (hl : lt x y = true) : lt y x = false := by
  cases e : lt y x with
  | false => rfl
  | true => have := h.trans x y x hx hy hx hl e; rw [h.irrefl x hx] at this; cases this
theorem Lin.ntrans {α : Type} {lt : α → α → Bool} {p : α → Prop} (h : Lin lt p) {x y z : α} (hx : p x) (hy : p y) (hz : p z) (h1 : lt x y = false) (h2 : lt y z = false) : lt x z = false := by
  cases e : lt x z with
  | false => rfl
  | true =>
    rcases Classical.em (x = y) with rfl | hne
    · rw [h2] at e; cases e
    · rcases h.total x y hx hy hne with h' | h'
      · rw [h1] at h'; cases h'
      · have := h.trans y x z hy hx hz h' e
        rw [h2] at this; cases this
def AllP {α : Type} [Inhabited α] (p : α → Prop) (d : List α) : Prop := ∀ i, i < d.length → p (el d i)
theorem AllP.of {α : Type} [Inhabited α] {p : α → Prop} {d : List α} (h : ∀ x ∈ d, p x) : AllP p d := fun i hi => h _ (by rw [el_lt hi]; exact List.getElem_mem _)
theorem AllP.perm {α : Type} [Inhabited α] {p : α → Prop} {d d' : List α} (h : AllP p d) (hp : d'.Perm d) : AllP p d' := by
  refine AllP.of fun x hx => ?_
  obtain ⟨i, hi, e⟩ := List.mem_iff_getElem.1 (hp.mem_iff.1 hx)
  rw [← e, ← el_lt hi]; exact h i hi
def Asc {α : Type} [Inhabited α] (lt : α → α → Bool) (a b : Nat) (d : List α) : Prop := ∀ i j, a ≤ i → i < j → j < b → lt (el d j) (el d i) = false
end Go.Vs

namespace Go.Vs

section
variable {α : Type} {cmp : α → α → Option Int} {lt : α → α → Bool} {p : α → Prop}
end

section
variable {α : Type} [Inhabited α] {cmp : α → α → Option Int} {lt : α → α → Bool} {p : α → Prop}
end
end Go.Vs

namespace Go.Vs

section
variable {α : Type} [Inhabited α] {cmp : α → α → Option Int} {lt : α → α → Bool} {p : α → Prop}
end
end Go.Vs

namespace Go.Vs

section
variable {α : Type} [Inhabited α] {cmp : α → α → Option Int} {lt : α → α → Bool} {p : α → Prop}

structure Parted (lt : α → α → Bool) (a b : Nat) (d : List α) (m : Nat) (d' : List α) : Prop where
  ge : a ≤ m
  le : m < b
  perm : PermR a b d d'
  low : ∀ i, a ≤ i → i < m → lt (el d' i) (el d' m) = true
  high : ∀ i, m < i → i < b → lt (el d' i) (el d' m) = false
end
end Go.Vs

namespace Go.Vs

section
variable {α : Type} [Inhabited α] {cmp : α → α → Option Int} {lt : α → α → Bool} {p : α → Prop}

def NIn (lt : α → α → Bool) (a0 b0 a b : Nat) (d : List α) : Prop := ∀ i j, a0 ≤ i → i < j → j < b0 → ¬ (a ≤ i ∧ j < b) → lt (el d j) (el d i) = false
theorem NIn.perm {a0 b0 a b : Nat} {d d' : List α} (h : NIn lt a0 b0 a b d) (hP : PermR a b d d') (ha : a0 ≤ a) (hab : a ≤ b) (hb : b ≤ b0) (hb0 : b0 ≤ d.length) : NIn lt a0 b0 a b d' := by
  intro i j h1 h2 h3 h4
  have cl : ∀ k, ∃ k', el d' k = el d k' ∧ ((a ≤ k ∧ k < b) → a ≤ k' ∧ k' < b) ∧ (¬ (a ≤ k ∧ k < b) → k' = k) := by
    intro k
    by_cases hk : a ≤ k ∧ k < b
    · obtain ⟨k', g1, g2, g3⟩ := hP.mem hab (by omega) hk.1 hk.2
      exact ⟨k', g3, fun _ => ⟨g1, g2⟩, fun h => absurd hk h⟩
    · exact ⟨k, hP.out k (by omega), fun h => absurd h hk, fun _ => rfl⟩
  obtain ⟨i', e1, q1, q2⟩ := cl i
  obtain ⟨j', e2, q3, q4⟩ := cl j
  rw [e1, e2]
  by_cases hi : a ≤ i ∧ i < b
  · have := q1 hi
    by_cases hj : a ≤ j ∧ j < b
    · exact absurd ⟨hi.1, hj.2⟩ h4
    · have := q4 hj; subst this; exact h i' j' (by omega) (by omega) h3 (by omega)
  · have := q2 hi; subst this
    by_cases hj : a ≤ j ∧ j < b
    · have := q3 hj; exact h i' j' h1 (by omega) (by omega) (by omega)
    · have := q4 hj; subst this; exact h i' j' h1 h2 h3 (by omega)
theorem NIn.done {a0 b0 a b : Nat} {d : List α} (h : NIn lt a0 b0 a b d) (hA : Asc lt a b d) : Asc lt a0 b0 d := by
  intro i j h1 h2 h3
  by_cases hc : a ≤ i ∧ j < b
  · exact hA i j hc.1 h2 hc.2
  · exact h i j h1 h2 h3 hc
end
end Go.Vs

namespace Go.Vs

abbrev Hit := Int × Int
def ltH (x y : Hit) : Bool := decide (x.2 < y.2 ∨ x.2 = y.2 ∧ x.1 < y.1)
theorem ltH_iff {x y : Hit} : ltH x y = true ↔ x.2 < y.2 ∨ x.2 = y.2 ∧ x.1 < y.1 := by simp [ltH]
theorem ltH_false {x y : Hit} : ltH x y = false ↔ ¬ (x.2 < y.2 ∨ x.2 = y.2 ∧ x.1 < y.1) := by simp [ltH]
theorem linH : Lin ltH (fun _ => True) where
  irrefl x _ := by rw [ltH_false]; omega
  trans x y z _ _ _ h1 h2 := by rw [ltH_iff] at *; omega
  total x y _ _ h := by
    rw [ltH_iff, ltH_iff]
    by_cases e : x.2 = y.2
    · have : x.1 ≠ y.1 := fun e2 => h (Prod.ext e2 e)
      omega
    · omega
end Go.Vs

namespace Go.Vs

def insH (x : Hit) : List Hit → List Hit
  | [] => [x]
  | y :: r => if ltH x y then x :: y :: r else y :: insH x r
def AscH (l : List Hit) : Prop := l.Pairwise fun x y => ltH y x = false
theorem insH_perm (x : Hit) (l : List Hit) : (insH x l).Perm (x :: l) := by
  induction l with
  | nil => exact List.Perm.refl _
  | cons y r ih =>
    unfold insH
    split
    · exact List.Perm.refl _
    · exact (List.Perm.cons y ih).trans (List.Perm.swap x y r)
theorem insH_asc {x : Hit} {l : List Hit} (h : AscH l) : AscH (insH x l) := by
  induction l with
  | nil => exact List.pairwise_singleton _ _
  | cons y r ih =>
    obtain ⟨h1, h2⟩ := List.pairwise_cons.1 h
    unfold insH
    split
    · rename_i hlt
      refine List.pairwise_cons.2 ⟨fun z hz => ?_, h⟩
      rcases List.mem_cons.1 hz with rfl | hz
      · exact linH.asymm trivial trivial hlt
      · exact linH.ntrans trivial trivial trivial (h1 z hz) (linH.asymm trivial trivial hlt)
    · rename_i hlt
      refine List.pairwise_cons.2 ⟨fun z hz => ?_, ih h2⟩
      rcases List.mem_cons.1 ((insH_perm x r).mem_iff.1 hz) with rfl | hz
      · simpa using hlt
      · exact h1 z hz
theorem ltH_antisymm {x y : Hit} (h1 : ltH x y = false) (h2 : ltH y x = false) : x = y := by
  rcases Classical.em (x = y) with h | h
  · exact h
  · rcases linH.total x y trivial trivial h with h' | h'
    · rw [h1] at h'; cases h'
    · rw [h2] at h'; cases h'
theorem asc_uniq {l m : List Hit} (hl : AscH l) (hm : AscH m) (h : l.Perm m) : l = m :=
  List.Perm.eq_of_pairwise (le := fun x y => ltH y x = false) (fun _ _ _ _ h1 h2 => ltH_antisymm h2 h1) hl hm h
def isort (l : List Hit) : List Hit := l.foldl (fun S x => insH x S) []
theorem isort_spec (l : List Hit) : AscH (isort l) ∧ (isort l).Perm l := by
  have key : ∀ (l S : List Hit), AscH S → AscH (l.foldl (fun S x => insH x S) S) ∧ (l.foldl (fun S x => insH x S) S).Perm (S ++ l) := by
    intro l
    induction l with
    | nil => intro S h; exact ⟨h, by simp⟩
    | cons x r ih =>
      intro S h
      obtain ⟨h1, h2⟩ := ih (insH x S) (insH_asc h)
      refine ⟨h1, h2.trans ?_⟩
      have := List.Perm.append_right r (insH_perm x S)
      exact this.trans (List.perm_middle.symm)
  exact key l [] List.Pairwise.nil
theorem isort_uniq {l m : List Hit} (hm : AscH m) (h : m.Perm l) : isort l = m := asc_uniq (isort_spec l).1 hm ((isort_spec l).2.trans h.symm)
def topH (k : Nat) (l : List Hit) : List Hit := (isort l).take k
/-! ## What the heap keeps -/
/-! ## The searches -/
end Go.Vs

namespace Go.Vs

end Go.Vs

namespace Go.Vs

end Go.Vs

namespace Go.Vs

end Go.Vs

namespace Go.Vs

end Go.Vs

namespace Go.Vs

end Go.Vs

namespace Go.Vs

end Go.Vs

namespace Go.Vs

structure OkL (l : List Item) : Prop where
  len : l.length ≤ 16
  vec : ∀ x ∈ l, isVec x.2.1 = true
  keys : (l.map (·.1)).Nodup
theorem OkL.inj {l : List Item} (h : OkL l) : ∀ x y, x ∈ l → y ∈ l → x.1 = y.1 → x = y := fun x y hx hy e => by
  obtain ⟨i, hi, rfl⟩ := List.mem_iff_getElem.1 hx
  obtain ⟨j, hj, rfl⟩ := List.mem_iff_getElem.1 hy
  have hpw := List.pairwise_iff_getElem.1 (List.pairwise_map.1 h.keys)
  rcases Nat.lt_trichotomy i j with h | h | h
  · exact absurd e (hpw i j hi hj h)
  · subst h; rfl
  · exact absurd e.symm (hpw j i hj hi h)
theorem OkL.sub {l m : List Item} (h : OkL l) (hs : List.Sublist m l) : OkL m :=
  ⟨Nat.le_trans hs.length_le h.len, fun x hx => h.vec x (hs.subset hx), List.Nodup.sublist (hs.map _) h.keys⟩
theorem OkL.perm {l m : List Item} (h : OkL l) (hp : m.Perm l) : OkL m :=
  ⟨by rw [hp.length_eq]; exact h.len, fun x hx => h.vec x (hp.mem_iff.1 hx), (hp.map (·.1)).nodup_iff.2 h.keys⟩

end Go.Vs

namespace Go.Vs

abbrev Nod := Int × Int × Int × Int
def nodesT : Tr Item → Nat → List Nod
  | .nil, _ => []
  | .node x n l r, a => (x.1, n, (bif l.isNil then -1 else ((a + 1 : Nat) : Int)), (bif r.isNil then -1 else ((a + 1 + (nodesT l (a + 1)).length : Nat) : Int))) :: (nodesT l (a + 1) ++ nodesT r (a + 1 + (nodesT l (a + 1)).length))
def Tr.size : Tr Item → Nat
  | .nil => 0
  | .node _ _ l r => l.size + r.size + 1
theorem nodesT_len : ∀ (t : Tr Item) (a : Nat), (nodesT t a).length = t.size
  | .nil, _ => rfl
  | .node x n l r, a => by simp only [nodesT, List.length_cons, List.length_append, nodesT_len l, nodesT_len r, Tr.size]
end Go.Vs

namespace Go.Vs

end Go.Vs

namespace Go.Vs

end Go.Vs

namespace Go.Vs

end Go.Vs

namespace Go.Vs

def itemsT : Tr Item → List Item
  | .nil => []
  | .node x _ l r => x :: (itemsT l ++ itemsT r)
def Sub (L : List Nod) (t : Tr Item) (a : Nat) : Prop := ∃ pre post, L = pre ++ nodesT t a ++ post ∧ pre.length = a
theorem Sub.left {L : List Nod} {x : Item} {q : Int} {l r : Tr Item} {a : Nat} (h : Sub L (.node x q l r) a) : Sub L l (a + 1) := by
  obtain ⟨pre, post, rfl, rfl⟩ := h
  exact ⟨pre ++ (nodesT (.node x q l r) pre.length).take 1, nodesT r (pre.length + 1 + (nodesT l (pre.length + 1)).length) ++ post, by simp [nodesT], by simp [nodesT]⟩
theorem Sub.right {L : List Nod} {x : Item} {q : Int} {l r : Tr Item} {a : Nat} (h : Sub L (.node x q l r) a) : Sub L r (a + 1 + l.size) := by
  obtain ⟨pre, post, rfl, rfl⟩ := h
  exact ⟨pre ++ (nodesT (.node x q l r) pre.length).take 1 ++ nodesT l (pre.length + 1), post, by simp [nodesT, nodesT_len], by simp [nodesT, nodesT_len]; omega⟩
theorem Sub.get {L : List Nod} {x : Item} {q : Int} {l r : Tr Item} {a : Nat} (h : Sub L (.node x q l r) a) : ∃ hl : a < L.length, L[a] = (x.1, q, (bif l.isNil then -1 else ((a + 1 : Nat) : Int)), (bif r.isNil then -1 else ((a + 1 + l.size : Nat) : Int))) := by
  obtain ⟨pre, post, rfl, rfl⟩ := h
  exact ⟨by simp [nodesT], by simp [nodesT, nodesT_len]⟩
theorem Sub.gidx {L : List Nod} {x : Item} {q : Int} {l r : Tr Item} {a : Nat} (h : Sub L (.node x q l r) a) : Go.Vs.gidx L (a : Int) = some (x.1, q, (bif l.isNil then -1 else ((a + 1 : Nat) : Int)), (bif r.isNil then -1 else ((a + 1 + l.size : Nat) : Int))) := by
  obtain ⟨hl, e⟩ := h.get
  rw [gidx_nat hl, e]
theorem sub_self (t : Tr Item) : Sub (nodesT t 0) t 0 := ⟨[], [], by simp, rfl⟩

end Go.Vs

namespace Go.Vs

def hitV (kd : Int) (v : List Int) (x : Item) : Hit := (x.1, dist kd x.2.1 v)
def hitsV (kd : Int) (v : List Int) (l : List Item) : List Hit := l.map (hitV kd v)
def reachH (k : Nat) (V : List Hit) : Int := if (topH k V).length < k then 1000000 else ((topH k V).getD (k - 1) (0, 0)).2
/-! ## Lists with the same nearest ones -/
def SameT (k : Nat) (U V : List Hit) : Prop := topH k U = topH k V
theorem SameT.refl (k : Nat) (U : List Hit) : SameT k U U := rfl
theorem SameT.trans {k : Nat} {U V W : List Hit} (h : SameT k U V) (g : SameT k V W) : SameT k U W := Eq.trans h g
theorem SameT.symm {k : Nat} {U V : List Hit} (h : SameT k U V) : SameT k V U := Eq.symm h
theorem SameT.perm {k : Nat} {U V : List Hit} (h : U.Perm V) : SameT k U V := by
  show topH k U = topH k V
  unfold topH
  rw [isort_uniq (isort_spec V).1 ((isort_spec V).2.trans h.symm)]
theorem SameT.reach {k : Nat} {U V : List Hit} (h : SameT k U V) : reachH k U = reachH k V := by
  unfold reachH
  rw [h]
/-! ## Trees find the nearest -/
/-! ## At how many nodes they look -/
noncomputable def vis (kd : Int) (v : List Int) (k : Nat) : Tr Item → List Hit → Nat
  | .nil, _ => 0
  | .node x q l r, P =>
    if dist kd x.2.1 v ≤ q then
      vis kd v k l (P ++ [hitV kd v x]) + 1 + (if q - dist kd x.2.1 v ≤ reachH k (P ++ [hitV kd v x] ++ hitsV kd v (itemsT l)) then vis kd v k r (P ++ [hitV kd v x] ++ hitsV kd v (itemsT l)) else 0)
    else
      vis kd v k r (P ++ [hitV kd v x]) + 1 + (if dist kd x.2.1 v - q ≤ reachH k (P ++ [hitV kd v x] ++ hitsV kd v (itemsT r)) then vis kd v k l (P ++ [hitV kd v x] ++ hitsV kd v (itemsT r)) else 0)
end Go.Vs

namespace Go.Vs

/-! ## The program's search -/
/-! ## What is answered -/
end Go.Vs

namespace Go.Vs

/-! ## Exact laws -/
end Go.Vs

namespace Go.Vs

end Go.Vs

namespace Go.Vs

/-! ## The first of the least -/
def SmallC (cs : List (List Int)) : Prop := cs.length < 2000000 ∧ ∀ c ∈ cs, c.length < 2000000
theorem kind3 : isKind 3 = true := rfl
/-! ## Drawn centres -/
/-! ## Laws -/
theorem SmallC.sub {cs ds : List (List Int)} (h : SmallC cs) (hs : ds.Sublist cs) : SmallC ds := ⟨by have := hs.length_le; have := h.1; omega, fun c hc => h.2 c (hs.subset hc)⟩
/-! ## Items and their centres -/
/-! ## Spreads -/
end Go.Vs

namespace Go.Vs

section
variable {cmp : Int → Int → Option Int} {D : Nat → Int} {n : Nat}
end

end Go.Vs

namespace Go.Vs

abbrev OkCs (cs : List (List Int)) : Prop := cs.length ≤ 9223372036854775807 ∧ ∀ x ∈ cs, (x.length ≤ 9223372036854775807 ∧ ∀ y ∈ x, True)
theorem smallC_of {cs : List (List Int)} (h1 : cs.length ≤ 1048576) (h2 : ∀ x ∈ cs, x.length ≤ 1048576) : SmallC cs := ⟨by omega, fun c hc => by have := h2 c hc; omega⟩
theorem szC_ok {cs : List (List Int)} {left : Int} (ha : OkCs cs) (h0 : 0 ≤ left) (h1 : left ≤ 1048576) : ∃ s, M.laws_szIntSS cs left = some s ∧ (s < 0 ∨ (0 ≤ s ∧ s ≤ left ∧ cs.length ≤ 1048576 ∧ ∀ x ∈ cs, x.length ≤ 1048576)) := by
  unfold M.laws_szIntSS
  rw [w64_id (by have := ha.1; omega) (by omega)]
  by_cases h : left - (cs.length : Int) < 0
  · exact ⟨-1, by simp [h], .inl (by omega)⟩
  simp only [h, decide_false, cond_false]
  have hl : cs.length ≤ 1048576 := by omega
  have key : ∀ m k : Nat, ∀ l : Int, k + m = cs.length → 0 ≤ l → l ≤ left → ∃ r : Int ⊕ Int, loopM (fun (s3 : (Int) × (Int)) => (bif decide (s3.2 < (cs.length : Int)) then
  (gidx cs s3.2).bind fun x8 =>
  (M.laws_szIntS x8 s3.1).bind fun r19 =>
  (bif decide (r19 < 0) then
  some (.inr (.inr (-1)))
 else
  some (.inl (r19, w64 (s3.2 + 1))))
 else
  some (.inr (.inl s3.1)))) (l, (k : Int)) = some r ∧ (r = .inr (-1) ∨ ∃ l', r = .inl l' ∧ 0 ≤ l' ∧ l' ≤ left ∧ ∀ x ∈ cs.drop k, x.length ≤ 1048576) := by
    intro m
    induction m with
    | zero =>
      intro k l hk hl0 hl1
      have : k = cs.length := by omega
      subst this
      refine ⟨.inl l, ?_, .inr ⟨l, rfl, hl0, hl1, by simp⟩⟩
      rw [loopM_eq]; simp [selim]
    | succ m ih =>
      intro k l hk hl0 hl1
      have hlt : k < cs.length := by omega
      have e1 : decide ((k : Int) < (cs.length : Int)) = true := by simpa using hlt
      have e2 : w64 ((k : Int) + 1) = ((k + 1 : Nat) : Int) := w64_id (by omega) (by omega)
      obtain ⟨s, es, hs⟩ := szIntS_ok (a := cs[k]) (left := l) (ha.2 _ (List.getElem_mem hlt)).1 hl0 (by omega)
      rw [loopM_eq]
      simp only [e1, cond_true, gidx_nat hlt, Option.bind_some, es, e2]
      rcases hs with hs | ⟨hs0, hs1, hs2⟩
      · exact ⟨.inr (-1), by simp [hs, selim], .inl rfl⟩
      · obtain ⟨r, hr, hr'⟩ := ih (k + 1) s (by omega) hs0 (by omega)
        refine ⟨r, ?_, ?_⟩
        · have : ¬ s < 0 := by omega
          simp only [this, decide_false, cond_false, selim, Option.bind_some]
          exact hr
        · rcases hr' with hr' | ⟨l', e, h0', h1', hall⟩
          · exact .inl hr'
          · refine .inr ⟨l', e, h0', h1', ?_⟩
            rw [List.drop_eq_getElem_cons hlt]
            intro x hx'
            rcases List.mem_cons.1 hx' with h | h
            · subst h; exact hs2
            · exact hall x h
  obtain ⟨r, hr, hr'⟩ := key cs.length 0 (left - cs.length) (by omega) (by omega) (by omega)
  simp only [Int.cast_ofNat_Int] at hr
  rw [hr]
  rcases hr' with rfl | ⟨l', rfl, h0', h1', hall⟩
  · exact ⟨-1, rfl, .inl (by omega)⟩
  · exact ⟨l', rfl, .inr ⟨h0', h1', hl, by simpa using hall⟩⟩
end Go.Vs

namespace Go.Vs

/-! ## Settling -/
end Go.Vs

namespace Go.Vs

/-! ## What searches cost -/
/-! ## Exact laws -/
end Go.Vs

namespace Go.Vs

/-! ## All items are in a list -/
end Go.Vs

namespace Go.Vs

end Go.Vs

namespace Go.Vs

def isHalf (v : List Int) : Bool := decide (v.length = 2) && v.all fun x => decide (-100 ≤ x) && decide (x ≤ 100)
theorem isHalf_iff {v : List Int} : isHalf v = true ↔ v.length = 2 ∧ ∀ x ∈ v, -100 ≤ x ∧ x ≤ 100 := by
  unfold isHalf; simp
theorem isHalf_cut {v : List Int} (h : isHalf v = true) : ∃ a b, v = [a, b] ∧ Co a ∧ Co b := by
  obtain ⟨h1, h2⟩ := isHalf_iff.1 h
  match v, h1 with
  | [a, b], _ => exact ⟨a, b, rfl, h2 a (by simp), h2 b (by simp)⟩
abbrev Book := List (List Int) × List (List Int)
def okH (l : List (List Int)) : Bool := decide (l.length = 4) && l.all isHalf
def okB (b : Book) : Bool := okH b.1 && okH b.2
theorem okH_iff {l : List (List Int)} : okH l = true ↔ l.length = 4 ∧ ∀ v ∈ l, isHalf v = true := by unfold okH; simp
theorem okB_iff {b : Book} : okB b = true ↔ okH b.1 = true ∧ okH b.2 = true := by unfold okB; simp
def SmallB (b : Book) : Prop := SmallC b.1 ∧ SmallC b.2
theorem specHalves_ok {l : List (List Int)} (s : SmallC l) : M.spec_validHalves l = some (l.all isHalf) := by
  unfold M.spec_validHalves
  have hl := s.1
  rw [loop_all (xs := l) (P := isHalf) (r := false)]
  · by_cases h : l.all isHalf = true
    · rw [if_pos h, h]; simp [selim]
    · rw [if_neg h]; simp only [Bool.not_eq_true] at h; rw [h]; simp [selim]
  · intro i hi
    have hx := s.2 _ (List.getElem_mem hi)
    have e5 : decide ((i : Int) < (l.length : Int)) = true := decide_eq_true (by omega)
    have e6 : w64 ((i : Int) + 1) = (i : Int) + 1 := w64_id (by omega) (by omega)
    simp only [e5, cond_true, gidx_nat hi, Option.bind_some, spec_all l[i] _ _ hx, e6]
    unfold isHalf
    by_cases h2 : l[i].length = 2
    · have : ((l[i].length : Int) != 2) = false := by rw [h2]; rfl
      simp only [this, cond_false, Option.bind_some, h2, decide_true, Bool.true_and]
      cases (l[i].all fun x => decide (-100 ≤ x) && decide (x ≤ 100)) <;> simp
    · have : ((l[i].length : Int) != 2) = true := by simp; omega
      simp [this, h2]
  · simp
theorem specBook_ok {b : Book} (s : SmallB b) : M.spec_validBook (b.1, b.2) = some (okB b) := by
  unfold M.spec_validBook okB okH
  simp only [specHalves_ok s.1, specHalves_ok s.2, Option.bind_some]
  have e : ∀ n : Nat, ((n : Int) == 4) = decide (n = 4) := by
    intro n; rw [Bool.eq_iff_iff]; simp; omega
  rw [e, e]
  cases decide (b.1.length = 4) <;> cases decide (b.2.length = 4) <;> cases b.1.all isHalf <;> simp

end Go.Vs

namespace Go.Vs

def hd2 (u v : List Int) : Int := gap (u.getD 0 0) (v.getD 0 0) * gap (u.getD 0 0) (v.getD 0 0) + gap (u.getD 1 0) (v.getD 1 0) * gap (u.getD 1 0) (v.getD 1 0)
theorem hd2_range {u v : List Int} (hu : isHalf u = true) (hv : isHalf v = true) : 0 ≤ hd2 u v ∧ hd2 u v ≤ 80000 := by
  obtain ⟨a, b, rfl, ha, hb⟩ := isHalf_cut hu
  obtain ⟨x, y, rfl, hx, hy⟩ := isHalf_cut hv
  have s0 := sq_bounds (gap_nonneg a x) (gap_le ha hx)
  have s1 := sq_bounds (gap_nonneg b y) (gap_le hb hy)
  show 0 ≤ gap a x * gap a x + gap b y * gap b y ∧ gap a x * gap a x + gap b y * gap b y ≤ 80000
  omega
def hD (l : List (List Int)) (v : List Int) (j : Nat) : Int := hd2 (l.getD j []) v
theorem hD_at {l : List (List Int)} {v : List Int} {j : Nat} (h : j < l.length) : hD l v j = hd2 l[j] v := by
  unfold hD; simp [List.getD, h]
theorem isVec_halves {v : List Int} (h : isVec v = true) : isHalf (v.take 2) = true ∧ isHalf (v.drop 2) = true := by
  obtain ⟨a, b, c, d, rfl, ha, hb, hc, hd⟩ := isVec_cut h
  unfold Co at *
  simp [isHalf]; omega
theorem halves_isVec {u v : List Int} (hu : isHalf u = true) (hv : isHalf v = true) : isVec (u ++ v) = true := by
  obtain ⟨a, b, rfl, ha, hb⟩ := isHalf_cut hu
  obtain ⟨x, y, rfl, hx, hy⟩ := isHalf_cut hv
  unfold Co at *
  simp [isVec]; omega
def decF (b : Book) (c : Nat) : List Int := b.1.getD (c / 4) [] ++ b.2.getD (c % 4) []
theorem specDec_ok {b : Book} {c : Nat} (h : okB b = true) (hc : c < 16) : M.spec_decode (b.1, b.2) (c : Int) = some (decF b c) := by
  unfold M.spec_decode decF
  obtain ⟨hb1, hb2⟩ := okB_iff.1 h
  obtain ⟨l1, a1⟩ := okH_iff.1 hb1
  obtain ⟨l2, a2⟩ := okH_iff.1 hb2
  have i1 : c / 4 < b.1.length := by omega
  have i2 : c % 4 < b.2.length := by omega
  have e1 : w64 ((c : Int).tdiv 4) = ((c / 4 : Nat) : Int) := by
    have : (c : Int).tdiv 4 = ((c / 4 : Nat) : Int) := rfl
    rw [this]; exact w64_id (by omega) (by omega)
  have e2 : (c : Int).tmod 4 = ((c % 4 : Nat) : Int) := rfl
  have n1 := (isHalf_iff.1 (a1 _ (List.getElem_mem i1))).1
  have n2 := (isHalf_iff.1 (a2 _ (List.getElem_mem i2))).1
  simp only [e1, e2, gidx_nat i1, gidx_nat i2, Option.bind_some]
  rw [gapp_ok (by simp; omega), Option.bind_some, gapp_ok (by simp; omega), Option.bind_some]
  simp [List.getD, i1, i2]
theorem decF_vec {b : Book} {c : Nat} (h : okB b = true) (hc : c < 16) : isVec (decF b c) = true := by
  obtain ⟨hb1, hb2⟩ := okB_iff.1 h
  obtain ⟨l1, a1⟩ := okH_iff.1 hb1
  obtain ⟨l2, a2⟩ := okH_iff.1 hb2
  have i1 : c / 4 < b.1.length := by omega
  have i2 : c % 4 < b.2.length := by omega
  unfold decF
  have e1 : b.1.getD (c / 4) [] = b.1[c / 4] := by simp [List.getD, i1]
  have e2 : b.2.getD (c % 4) [] = b.2[c % 4] := by simp [List.getD, i2]
  rw [e1, e2]
  exact halves_isVec (a1 _ (List.getElem_mem i1)) (a2 _ (List.getElem_mem i2))
theorem dist_dec {b : Book} {c : Nat} {v : List Int} (h : okB b = true) (hc : c < 16) (hv : isVec v = true) : dist 3 (decF b c) v = hD b.1 (v.take 2) (c / 4) + hD b.2 (v.drop 2) (c % 4) := by
  have hd := decF_vec h hc
  obtain ⟨hb1, hb2⟩ := okB_iff.1 h
  obtain ⟨l1, a1⟩ := okH_iff.1 hb1
  obtain ⟨l2, a2⟩ := okH_iff.1 hb2
  have i1 : c / 4 < b.1.length := by omega
  have i2 : c % 4 < b.2.length := by omega
  have e1 : b.1.getD (c / 4) [] = b.1[c / 4] := by simp [List.getD, i1]
  have e2 : b.2.getD (c % 4) [] = b.2[c % 4] := by simp [List.getD, i2]
  obtain ⟨p, q, hp, _, _⟩ := isHalf_cut (a1 _ (List.getElem_mem i1))
  obtain ⟨r, s, hr, _, _⟩ := isHalf_cut (a2 _ (List.getElem_mem i2))
  obtain ⟨x, y, z, w, rfl, _⟩ := isVec_cut hv
  have ed : decF b c = [p, q, r, s] := by unfold decF; rw [e1, e2, hp, hr]; rfl
  rw [ed] at hd ⊢
  rw [dist_vec hd hv, hD_at i1, hD_at i2, hp, hr]
  show gap p x * gap p x + gap q y * gap q y + gap r z * gap r z + gap s w * gap s w = (gap p x * gap p x + gap q y * gap q y) + (gap r z * gap r z + gap s w * gap s w)
  omega
end Go.Vs

namespace Go.Vs

end Go.Vs

namespace Go.Vs

end Go.Vs

namespace Go.Vs

end Go.Vs

namespace Go.Vs

end Go.Vs

namespace Go.Vs

/-! ## Planes -/
end Go.Vs

namespace Go.Vs

theorem implSide_ok {l : List (List Int)} (s : SmallC l) : M.impl_validSide l = some (okH l) := by
  unfold M.impl_validSide okH
  have hl := s.1
  by_cases h4 : l.length = 4
  · have e0 : ((l.length : Int) != 4) = false := by simp; omega
    rw [e0, cond_false, decide_eq_true h4, Bool.true_and]
    rw [loop_all (xs := l) (P := isHalf) (r := false)]
    · by_cases h : l.all isHalf = true
      · rw [if_pos h, h]; rfl
      · rw [if_neg h]; simp only [Bool.not_eq_true] at h; rw [h]; rfl
    · intro i hi
      have hx := s.2 _ (List.getElem_mem hi)
      have e5 : decide ((i : Int) < (l.length : Int)) = true := decide_eq_true (by omega)
      have e6 : w64 ((i : Int) + 1) = (i : Int) + 1 := w64_id (by omega) (by omega)
      simp only [e5, cond_true, gidx_nat hi, Option.bind_some, implCoords_ok l[i] hx, e6]
      unfold isHalf
      by_cases h2 : l[i].length = 2
      · have e2 : ((l[i].length : Int) != 2) = false := by rw [h2]; rfl
        rw [e2, cond_false, decide_eq_true h2, Bool.true_and]
        cases (l[i].all fun x => decide (-100 ≤ x) && decide (x ≤ 100)) <;> simp
      · have e2 : ((l[i].length : Int) != 2) = true := by simp; omega
        rw [e2, cond_true, decide_eq_false h2, Bool.false_and]
        simp
    · simp
  · have e0 : ((l.length : Int) != 4) = true := by simp; omega
    rw [e0, cond_true, decide_eq_false h4, Bool.false_and]
theorem implBook_ok {b : Book} (s : SmallB b) : M.impl_ValidBook (b.1, b.2) = some (okB b) := by
  unfold M.impl_ValidBook okB
  simp only [implSide_ok s.1, implSide_ok s.2, Option.bind_some]
  cases okH b.1 <;> cases okH b.2 <;> rfl
/-! ## Tables -/
theorem sq_gap (a b : Int) : gap a b * gap a b = (b - a) * (b - a) := by
  unfold gap
  rcases Int.le_total a b with h | h
  · rw [Int.max_eq_right (by omega)]
  · rw [Int.max_eq_left (by omega)]; grind
theorem tab_inner {T u v : List Int} {i : Nat} (hT : T.length = 4) (hi : i < 4) (h0 : T[i]'(by omega) = 0) (hu : isHalf u = true) (hv : isHalf v = true) :
    loopM (fun (s21 : (List Int) × (Int)) => (bif decide (s21.2 < (v.length : Int)) then
  (gidx v s21.2).bind fun x25 =>
  (gidx s21.1 (i : Int)).bind fun x31 =>
  (gidx u s21.2).bind fun x35 =>
  (gidx u s21.2).bind fun x41 =>
  (gidx s21.1 (i : Int)).bind fun x49 =>
  some (.inl ((s21.1.set (i : Int).toNat (w64 (x31 + (w64 ((w64 (x25 - x35)) * (w64 (x25 - x41))))))), w64 (s21.2 + 1)))
 else
  some (.inr s21.1))) (T, 0) = some (T.set i (hd2 u v)) := by
  obtain ⟨a, b, rfl, ha, hb⟩ := isHalf_cut hu
  obtain ⟨x, y, rfl, hx, hy⟩ := isHalf_cut hv
  unfold Co at ha hb hx hy
  have l2 : (([x, y] : List Int).length : Int) = 2 := rfl
  have d02 : decide ((0 : Int) < 2) = true := rfl
  have d12 : decide ((1 : Int) < 2) = true := rfl
  have d22 : decide ((2 : Int) < 2) = false := rfl
  have hiT : i < T.length := by omega
  have hiT' : ∀ z, i < (T.set i z).length := fun z => by rw [List.length_set]; omega
  have s0 := sq_bounds (gap_nonneg a x) (show gap a x ≤ 200 by unfold gap; omega)
  have s1 := sq_bounds (gap_nonneg b y) (show gap b y ≤ 200 by unfold gap; omega)
  have eh : hd2 [a, b] [x, y] = gap a x * gap a x + gap b y * gap b y := rfl
  rw [sq_gap] at s0 s1
  rw [eh, sq_gap, sq_gap]
  have w0 : w64 (x - a) = x - a := w64_id (by omega) (by omega)
  have w1 : w64 (y - b) = y - b := w64_id (by omega) (by omega)
  generalize hp : (x - a) * (x - a) = p at *
  generalize hq : (y - b) * (y - b) = q at *
  have w2 : w64 p = p := w64_id (by omega) (by omega)
  have w3 : w64 q = q := w64_id (by omega) (by omega)
  have w4 : w64 (0 + p) = p := by rw [w64_id (by omega) (by omega)]; omega
  have w5 : w64 (p + q) = p + q := w64_id (by omega) (by omega)
  rw [loopM_eq]
  simp only [l2, d02, gi0, cond_true, Option.bind_some, gidx_nat hiT, h0, w0, hp, w2, w4, i01, selim, Int.toNat_natCast]
  rw [loopM_eq]
  simp only [d12, gi1, cond_true, Option.bind_some, gidx_nat (hiT' _), List.getElem_set_self, w1, hq, w3, w5, i12, selim, Int.toNat_natCast, List.set_set]
  rw [loopM_eq]
  simp only [d22, cond_false, Option.bind_some, selim]
def tabU (l : List (List Int)) (v : List Int) (i : Nat) : List Int := [if 0 < i then hD l v 0 else 0, if 1 < i then hD l v 1 else 0, if 2 < i then hD l v 2 else 0, if 3 < i then hD l v 3 else 0]
theorem tabU_set {l : List (List Int)} {v : List Int} {i : Nat} (hi : i < 4) : (tabU l v i).set i (hD l v i) = tabU l v (i + 1) := by
  rcases (show i = 0 ∨ i = 1 ∨ i = 2 ∨ i = 3 by omega) with rfl | rfl | rfl | rfl <;> simp [tabU]
theorem tabU_zero {l : List (List Int)} {v : List Int} {i : Nat} (hi : i < (tabU l v i).length) : (tabU l v i)[i] = 0 := by
  have hi' : i < 4 := hi
  rcases (show i = 0 ∨ i = 1 ∨ i = 2 ∨ i = 3 by omega) with rfl | rfl | rfl | rfl <;> simp [tabU]
def tab (l : List (List Int)) (v : List Int) : List Int := [hD l v 0, hD l v 1, hD l v 2, hD l v 3]
theorem table_ok {l : List (List Int)} {v : List Int} (hl : okH l = true) (hv : isHalf v = true) : M.impl_tableOf l v = some (tab l v) := by
  unfold M.impl_tableOf
  obtain ⟨c4, hvec⟩ := okH_iff.1 hl
  have hloop := loop_run (R := List Int) (r := tab l v) (f := fun (s6 : (List Int) × (Int)) => (bif decide (s6.2 < (l.length : Int)) then
  (gidx l s6.2).bind fun x10 =>
  Option.bind (loopM (fun (s21 : (List Int) × (Int)) => (bif decide (s21.2 < (v.length : Int)) then
  (gidx v s21.2).bind fun x25 =>
  (gidx s21.1 s6.2).bind fun x31 =>
  (gidx x10 s21.2).bind fun x35 =>
  (gidx x10 s21.2).bind fun x41 =>
  (gidx s21.1 s6.2).bind fun x49 =>
  some (.inl ((s21.1.set s6.2.toNat (w64 (x31 + (w64 ((w64 (x25 - x35)) * (w64 (x25 - x41))))))), w64 (s21.2 + 1)))
 else
  some (.inr s21.1))) (s6.1, 0)) fun o20 =>
  some (.inl (o20, w64 (s6.2 + 1)))
 else
  some (.inr s6.1))) 4 (fun i => (tabU l v i, (i : Int))) (by
    intro i hi
    have hi' : i < l.length := by omega
    have e1 : decide ((i : Int) < (l.length : Int)) = true := decide_eq_true (by omega)
    simp only [e1, cond_true, gidx_nat hi', Option.bind_some]
    rw [tab_inner (T := tabU l v i) rfl hi (tabU_zero (by show i < 4; exact hi)) (hvec _ (List.getElem_mem hi')) hv]
    simp only [Option.bind_some, w64_succ (i := i) (by omega)]
    rw [← hD_at hi', tabU_set hi]) (by
    have e1 : decide (((4 : Nat) : Int) < (l.length : Int)) = false := decide_eq_false (by omega)
    simp only [e1, cond_false]; rfl)
  have e0 : ((0 : Nat) : Int) = 0 := rfl
  simp only [e0] at hloop
  have e2 : (List.replicate 4 (0 : Int)) = tabU l v 0 := rfl
  rw [e2, hloop]; rfl
theorem tables_ok {b : Book} {v : List Int} (h : okB b = true) (hv : isVec v = true) : M.impl_tablesOf (b.1, b.2) v = some (tab b.1 (v.take 2), tab b.2 (v.drop 2)) := by
  unfold M.impl_tablesOf
  obtain ⟨hb1, hb2⟩ := okB_iff.1 h
  obtain ⟨hh1, hh2⟩ := isVec_halves hv
  have hl := (isVec_iff.1 hv).1
  have g1 : gslice v 0 2 = some (v.take 2) := by rw [gslice_ok (by omega) (by omega) (by omega)]; rfl
  have g2 : gslice v 2 (v.length : Int) = some (v.drop 2) := by
    rw [gslice_ok (by omega) (by omega) (by omega), Int.toNat_natCast, List.take_length]; rfl
  simp only [g1, g2, Option.bind_some, table_ok hb1 hh1, table_ok hb2 hh2]
theorem hD_range {l : List (List Int)} {v : List Int} {j : Nat} (hl : okH l = true) (hv : isHalf v = true) (hj : j < 4) : 0 ≤ hD l v j ∧ hD l v j ≤ 80000 := by
  obtain ⟨c4, hvec⟩ := okH_iff.1 hl
  have hj' : j < l.length := by omega
  rw [hD_at hj']; exact hd2_range (hvec _ (List.getElem_mem hj')) hv
/-! ## Vectors of codes -/
/-! ## Distances of codes -/
def cds (b : Book) (v : List Int) : List Int := (List.range 16).map fun c => dist 3 (decF b c) v
def cdV (b : Book) (v : List Int) : List Int := if okB b = true ∧ isVec v = true then cds b v else []
theorem cds_eq {b : Book} {v : List Int} (h : okB b = true) (hv : isVec v = true) : cds b v = (tab b.1 (v.take 2)).flatMap fun x => (tab b.2 (v.drop 2)).map fun y => x + y := by
  have : cds b v = (List.range 16).map fun c => hD b.1 (v.take 2) (c / 4) + hD b.2 (v.drop 2) (c % 4) := by
    unfold cds
    refine List.map_congr_left fun c hc => ?_
    exact dist_dec h (List.mem_range.1 hc) hv
  rw [this]; rfl
theorem implCD_ok {b : Book} {v : List Int} (s : SmallB b) (hv : v.length < 2000000) : M.impl_CodeDistances (b.1, b.2) v = some (cdV b v) := by
  unfold M.impl_CodeDistances cdV
  simp only [implBook_ok s, impl_valid v hv, Option.bind_some]
  cases hb : okB b with
  | false => simp
  | true =>
    cases hvv : isVec v with
    | false => simp
    | true =>
      obtain ⟨hb1, hb2⟩ := okB_iff.1 hb
      obtain ⟨hh1, hh2⟩ := isVec_halves hvv
      have hm : gmakeC 0 16 (0 : Int) = some [] := rfl
      simp only [Bool.not_true, cond_false, Option.bind_some, tables_ok hb hvv, and_self, if_true, hm]
      rw [cds_eq hb hvv]
      have ra : ∀ x ∈ tab b.1 (v.take 2), 0 ≤ x ∧ x ≤ 80000 := by
        intro x hx
        simp only [tab, List.mem_cons, List.not_mem_nil, or_false] at hx
        rcases hx with rfl | rfl | rfl | rfl <;> exact hD_range hb1 hh1 (by omega)
      have rb : ∀ x ∈ tab b.2 (v.drop 2), 0 ≤ x ∧ x ≤ 80000 := by
        intro x hx
        simp only [tab, List.mem_cons, List.not_mem_nil, or_false] at hx
        rcases hx with rfl | rfl | rfl | rfl <;> exact hD_range hb2 hh2 (by omega)
      have la : (tab b.1 (v.take 2)).length = 4 := rfl
      have lb : (tab b.2 (v.drop 2)).length = 4 := rfl
      generalize tab b.1 (v.take 2) = A at *
      generalize tab b.2 (v.drop 2) = B at *
      have lz : ∀ i, i ≤ 4 → ((A.take i).flatMap fun x => B.map fun y => x + y).length = 4 * i := by
        intro i hi
        rw [List.length_flatMap]
        simp only [List.length_map, lb]
        rw [List.map_const', List.sum_replicate_nat, List.length_take, la]
        omega
      have eA : ∀ i : Int, decide (i < 4) = decide (i < (A.length : Int)) := fun i => by rw [la]; rfl
      have eB : ∀ i : Int, decide (i < 4) = decide (i < (B.length : Int)) := fun i => by rw [lb]; rfl
      simp only [eA]
      refine fold_bind (xs := A) (fun (s : List Int) i => (s, i)) (fun s x => s ++ B.map fun y => x + y) (fun i s => s = (A.take i).flatMap fun x => B.map fun y => x + y) (fun s => s) (s0 := []) (by simp) ?_ ?_ ?_
      · rintro s i hi rfl
        have e1 : decide ((i : Int) < (A.length : Int)) = true := decide_eq_true (by omega)
        have ri := ra _ (List.getElem_mem hi)
        have hlz := lz i (by omega)
        refine ⟨?_, ?_⟩
        · simp only [e1, cond_true, gidx_nat hi, Option.bind_some, ← eA]
          simp only [eB]
          refine fold_bind (xs := B) (fun (s : List Int) i => (s, i)) (fun s y => s ++ [A[i] + y]) (fun j s => s = ((A.take i).flatMap fun x => B.map fun y => x + y) ++ (B.take j).map fun y => A[i] + y) (fun s => s) (s0 := (A.take i).flatMap fun x => B.map fun y => x + y) (by simp) ?_ ?_ ?_
          · rintro s j hj rfl
            have e2 : decide ((j : Int) < (B.length : Int)) = true := decide_eq_true (by omega)
            have rj := rb _ (List.getElem_mem hj)
            have e3 : w64 (A[i] + B[j]) = A[i] + B[j] := w64_id (by omega) (by omega)
            simp only [e2, cond_true, gidx_nat hj, Option.bind_some, e3, w64_succ (i := j) (by omega)]
            rw [gapp_ok (by rw [List.length_append, hlz, List.length_map, List.length_take, List.length_singleton]; omega)]
            refine ⟨rfl, ?_⟩
            rw [List.take_succ_eq_append_getElem hj, List.map_append, List.append_assoc]; rfl
          · intro s _; simp
          · intro hs
            rw [hs, List.take_length, w64_succ (i := i) (by omega)]
        · rw [List.take_succ_eq_append_getElem hi, List.flatMap_append]; simp
      · intro s _; simp
      · intro hs
        rw [hs, List.take_length]
theorem specCD_ok {b : Book} {v : List Int} (s : SmallB b) (hv : v.length < 2000000) : M.spec_CodeDistances (b.1, b.2) v = some (cdV b v) := by
  unfold M.spec_CodeDistances cdV
  simp only [specBook_ok s, spec_isVec v hv, Option.bind_some]
  cases hb : okB b with
  | false => simp
  | true =>
    cases hvv : isVec v with
    | false => simp
    | true =>
      simp only [Bool.not_true, cond_false, Option.bind_some, and_self, if_true]
      have eR : ∀ i : Int, decide (i < 16) = decide (i < ((List.range 16).length : Int)) := fun i => by rw [List.length_range]; rfl
      simp only [eR]
      refine fold_bind (xs := List.range 16) (fun (s : List Int) i => (s, i)) (fun s c => s ++ [dist 3 (decF b c) v]) (fun i s => s = ((List.range 16).take i).map fun c => dist 3 (decF b c) v) (fun s => s) (s0 := []) (by simp) ?_ ?_ ?_
      · rintro s i hi rfl
        have e1 : decide ((i : Int) < ((List.range 16).length : Int)) = true := decide_eq_true (by omega)
        have hi' : i < 16 := by simpa using hi
        simp only [e1, cond_true, Option.bind_some, specDec_ok hb hi', specDist_vec kind3 (decF_vec hb hi') hvv, w64_succ (i := i) (by omega)]
        rw [gapp_ok (by rw [List.length_map, List.length_take, List.length_singleton]; omega)]
        refine ⟨by simp, ?_⟩
        rw [List.take_succ_eq_append_getElem hi, List.map_append]; simp
      · intro s _; simp
      · intro hs
        rw [hs, List.take_length]; rfl
end Go.Vs

namespace Go.Vs

theorem cds_len {b : Book} {v : List Int} : (cds b v).length = 16 := by simp [cds]
theorem cdV_len {b : Book} {v : List Int} : (cdV b v).length < 2000000 := by
  unfold cdV; split
  · rw [cds_len]; omega
  · simp
end Go.Vs

namespace Go.Vs

/-! ## Bits -/
end Go.Vs

namespace Go.Vs

/-! ## Opposite vectors -/
/-! ## A plane looks at itself -/
/-! ## Twice a vector -/
end Go.Vs

namespace Go.Vs

/-! ## Buckets -/
end Go.Vs

namespace Go.Vs

/-! ## Ranked again -/
/-! ## The nearest of a bucket -/
end Go.Vs

namespace Go.Vs

abbrev OkBk (b : Book) : Prop := OkCs b.1 ∧ OkCs b.2
theorem szBook_ok {b : Book} {left : Int} (ha : OkBk b) (h0 : 0 ≤ left) (h1 : left ≤ 1048576) : ∃ s, M.laws_szBook (b.1, b.2) left = some s ∧ (s < 0 ∨ (0 ≤ s ∧ s ≤ left ∧ (b.1.length ≤ 1048576 ∧ ∀ x ∈ b.1, x.length ≤ 1048576) ∧ (b.2.length ≤ 1048576 ∧ ∀ x ∈ b.2, x.length ≤ 1048576))) := by
  unfold M.laws_szBook
  obtain ⟨s, es, hs⟩ := szC_ok (left := left) ha.1 h0 h1
  simp only [es, Option.bind_some]
  rcases hs with hs | ⟨g0, g1, g2, g3⟩
  · exact ⟨-1, by simp [hs], .inl (by omega)⟩
  have hn : ¬ s < 0 := by omega
  obtain ⟨t, et, ht⟩ := szC_ok (left := s) ha.2 g0 (by omega)
  simp only [hn, decide_false, cond_false, et, Option.bind_some]
  rcases ht with ht | ⟨k0, k1, k2, k3⟩
  · exact ⟨-1, by simp [ht], .inl (by omega)⟩
  have hm : ¬ t < 0 := by omega
  exact ⟨t, by simp [hm], .inr ⟨k0, by omega, ⟨g2, g3⟩, k2, k3⟩⟩
section
variable {b : Book} (h : b.1.length ≤ 1048576 ∧ ∀ x ∈ b.1, x.length ≤ 1048576) (g : b.2.length ≤ 1048576 ∧ ∀ x ∈ b.2, x.length ≤ 1048576)
include h g
theorem smallB_of : SmallB b := ⟨smallC_of h.1 h.2, smallC_of g.1 g.2⟩
theorem toBookD_ok : M.laws_toBookD (b.1, b.2) = some (b.1, b.2) := by
  unfold M.laws_toBookD
  simp only [dIntSS_ok h.1 h.2, dIntSS_ok g.1 g.2, Option.bind_some]
theorem eqBook_self : M.laws_eqBook (b.1, b.2) (b.1, b.2) = some true := by
  unfold M.laws_eqBook
  have s := smallB_of h g
  simp only [eqIntSS_self s.1.1 s.1.2, eqIntSS_self s.2.1 s.2.2, Option.bind_some, Bool.not_true, cond_false]
theorem markBook_ok : ∃ r, M.laws_markBook (b.1, b.2) 1 = some r ∧ 1 ≤ r ∧ r ≤ 2200000000000 := by
  unfold M.laws_markBook
  obtain ⟨k, hk, k1, k2⟩ := markIntSD_ok h.1 h.2
  obtain ⟨k', hk', k1', k2'⟩ := markIntSD_at (k := k) g.1 g.2 (by omega) (by omega)
  exact ⟨k', by simp only [hk, hk', Option.bind_some], by omega, by omega⟩
end
theorem law_ExactCodeDistances (b : Book) (v : List Int) (ha : OkBk b) : M.laws_FnExactCodeDistances b v = some true := by
  unfold M.laws_FnExactCodeDistances
  by_cases hc : 1048576 < (v.length : Int)
  · simp [hc]
  have la : v.length ≤ 1048576 := by omega
  have la' : v.length < 2000000 := by omega
  obtain ⟨s, es, hs⟩ := szBook_ok (left := 1048576) ha (by omega) (by omega)
  simp only [hc, decide_false, cond_false, es, Option.bind_some]
  rcases hs with hs | ⟨h0, _, h1, h2⟩
  · simp [hs]
  have hn : ¬ s < 0 := by omega
  have sb := smallB_of h1 h2
  obtain ⟨k, hk, k1, k2⟩ := markBook_ok h1 h2
  have hn1 : ¬ (k + (v.length : Int)) < 0 := by omega
  have lm := cdV_len (b := b) (v := v)
  have hn2 : ¬ (1 + ((cdV b v).length : Int)) < 0 := by omega
  simp only [hn, decide_false, cond_false, toBookD_ok h1 h2, toIntS_ok la, Option.bind_some, specCD_ok sb la', implCD_ok sb la', eqIntS_ok lm, eqIntS_ok la', decide_true, Bool.not_true, eqBook_self h1 h2, hk, markIntS_ok (k := k) la' (by omega) (by omega), hn1, markIntS_ok lm one0 one1, heldIntS_ok lm one0 one1, hn2, bne_self_eq_false]
end Go.Vs
