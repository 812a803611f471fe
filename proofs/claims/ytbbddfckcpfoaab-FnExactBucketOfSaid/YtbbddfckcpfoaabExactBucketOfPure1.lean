/- Plain facts of what the functions compute. -/
import Derived.Test.YtbbddfckcpfoaabExactBucketOfEng1
import Derived.Test.YtbbddfckcpfoaabExactBucketOfLib1
set_option linter.unusedVariables false
set_option linter.unusedSimpArgs false
namespace Go.Vs

theorem loop_run {S R : Type} {f : S → Option (S ⊕ R)} {r : R} (k : Nat) (st : Nat → S) (hs : ∀ i, i < k → f (st i) = some (.inl (st (i + 1)))) (he : f (st k) = some (.inr r)) : loopM f (st 0) = some r := by
  induction k generalizing st with
  | zero => rw [loopM_eq, he]; rfl
  | succ k ih =>
    rw [loopM_eq, hs 0 (by omega)]
    exact ih (fun i => st (i + 1)) (fun i hi => hs (i + 1) (by omega)) he

theorem gidx_nat {α : Type} {xs : List α} {i : Nat} (h : i < xs.length) : gidx xs (i : Int) = some xs[i] := by
  unfold gidx
  rw [if_pos (by omega)]
  simp [h]
theorem gapp_ok {α : Type} {xs ys : List α} (h : xs.length + ys.length ≤ 2147483648) : gapp xs ys = some (xs ++ ys) := by unfold gapp; rw [if_pos h]
theorem gmake_ok {α : Type} {k : Int} {z : α} (h0 : 0 ≤ k) (h1 : k ≤ 2147483648) : gmake k z = some (List.replicate k.toNat z) := by unfold gmake; rw [if_pos ⟨h0, h1⟩]
/-- A loop that looks at each element, and leaves at the first that fails. -/
theorem loop_all {α R : Type} {xs : List α} {P : α → Bool} {r : R} {f : Int → Option (Int ⊕ (Unit ⊕ R))} (hs : ∀ i (h : i < xs.length), f (i : Int) = some (if P xs[i] then .inl ((i : Int) + 1) else .inr (.inr r))) (he : f (xs.length : Int) = some (.inr (.inl ()))) :
    loopM f 0 = some (if xs.all P then .inl () else .inr r) := by
  have key : ∀ m k : Nat, k + m = xs.length → loopM f (k : Int) = some (if (xs.drop k).all P then .inl () else .inr r) := by
    intro m
    induction m with
    | zero =>
      intro k hk
      have : k = xs.length := by omega
      subst this
      rw [loopM_eq, he]; simp [selim]
    | succ m ih =>
      intro k hk
      have hlt : k < xs.length := by omega
      rw [loopM_eq, hs k hlt, List.drop_eq_getElem_cons hlt]
      by_cases hp : P xs[k] = true
      · rw [if_pos hp]
        have := ih (k + 1) (by omega)
        simp only [Int.natCast_add, Int.cast_ofNat_Int] at this
        simp only [List.all_cons, hp, Bool.true_and, selim, this, Option.bind_some]
      · rw [if_neg hp]
        simp only [List.all_cons, Bool.not_eq_true] at hp ⊢
        simp only [hp, Bool.false_and, selim, Option.bind_some]; rfl
  have := key xs.length 0 (by omega)
  simpa using this
end Go.Vs

namespace Go.Vs

/-- A reader that has been asked at most k times. -/
def Good (k : Nat) (r : List UInt8 × Int) : Prop := r.1.length ≤ 2000 ∧ 0 ≤ r.2 ∧ r.2 ≤ k
theorem Good.mono {k m : Nat} {r : List UInt8 × Int} (h : Good k r) (hm : k ≤ m) : Good m r := ⟨h.1, h.2.1, by have := h.2.2; omega⟩

/-- A valid vector. -/
def isVec (v : List Int) : Bool := decide (v.length = 4) && v.all fun x => decide (-100 ≤ x) && decide (x ≤ 100)
theorem isVec_iff {v : List Int} : isVec v = true ↔ v.length = 4 ∧ ∀ x ∈ v, -100 ≤ x ∧ x ≤ 100 := by
  unfold isVec; simp
theorem isVec_four {v : List Int} (h : isVec v = true) : ∃ a b c d, v = [a, b, c, d] ∧ (-100 ≤ a ∧ a ≤ 100) ∧ (-100 ≤ b ∧ b ≤ 100) ∧ (-100 ≤ c ∧ c ≤ 100) ∧ (-100 ≤ d ∧ d ≤ 100) := by
  obtain ⟨h1, h2⟩ := isVec_iff.1 h
  match v, h1 with
  | [a, b, c, d], _ => exact ⟨a, b, c, d, rfl, h2 a (by simp), h2 b (by simp), h2 c (by simp), h2 d (by simp)⟩

end Go.Vs
namespace Go.Vs
/-- A vector that may be drawn. -/
def Near (v : List Int) : Prop := v.length ≤ 5 ∧ ∀ x ∈ v, -101 ≤ x ∧ x ≤ 101
theorem implCoords_ok (v : List Int) (hb : v.length < 2000000) : M.impl_validCoords v = some (v.all fun x => decide (-100 ≤ x) && decide (x ≤ 100)) := by
  unfold M.impl_validCoords
  rw [loop_all (xs := v) (P := fun x => decide (-100 ≤ x) && decide (x ≤ 100)) (r := false)]
  · by_cases ha : (v.all fun x => decide (-100 ≤ x) && decide (x ≤ 100)) = true
    · simp only [ha, if_true, Option.bind_some, selim]
    · simp only [Bool.not_eq_true] at ha
      simp only [ha]; simp [selim]
  · intro i h
    have e1 : decide ((i : Int) < (v.length : Int)) = true := by simpa using h
    have e2 : w64 ((i : Int) + 1) = (i : Int) + 1 := w64_id (by omega) (by omega)
    simp only [e1, cond_true, gidx_nat h, Option.bind_some, e2]
    by_cases c1 : v[i] < -100
    · have c2 : ¬ (-100 ≤ v[i]) := by omega
      simp [c1, c2]
    · by_cases c3 : 100 < v[i]
      · have c4 : ¬ (v[i] ≤ 100) := by omega
        simp [c1, c3, c4]
      · simp [c1, c3, show -100 ≤ v[i] by omega, show v[i] ≤ 100 by omega]
  · simp
theorem impl_valid (v : List Int) (hb : v.length < 2000000) : M.impl_ValidVector v = some (isVec v) := by
  unfold M.impl_ValidVector
  simp only [implCoords_ok v hb, Option.bind_some]
  unfold isVec
  by_cases hl : v.length = 4
  · have e : ((v.length : Int) == 4) = true := by simp; omega
    rw [e, cond_true, decide_eq_true hl, Bool.true_and]
  · have e : ((v.length : Int) == 4) = false := by simp; omega
    rw [e, cond_false, decide_eq_false hl, Bool.false_and]
theorem spec_inR (n l h : Int) : M.spec_inRange n l h = some (decide (l ≤ n) && decide (n ≤ h)) := by
  unfold M.spec_inRange
  by_cases h1 : l ≤ n <;> simp [h1]
theorem spec_all (v : List Int) (l h : Int) (hb : v.length < 2000000) : M.spec_allIn v l h = some (v.all fun x => decide (l ≤ x) && decide (x ≤ h)) := by
  unfold M.spec_allIn
  rw [loop_all (xs := v) (P := fun x => decide (l ≤ x) && decide (x ≤ h)) (r := false)]
  · by_cases ha : (v.all fun x => decide (l ≤ x) && decide (x ≤ h)) = true
    · simp only [ha, if_true, Option.bind_some, selim]
    · simp only [Bool.not_eq_true] at ha
      simp [ha, selim]
  · intro i hi
    have e1 : decide ((i : Int) < (v.length : Int)) = true := by simpa using hi
    have e2 : w64 ((i : Int) + 1) = (i : Int) + 1 := w64_id (by omega) (by omega)
    simp only [e1, cond_true, gidx_nat hi, Option.bind_some, e2, spec_inR]
    cases (decide (l ≤ v[i]) && decide (v[i] ≤ h)) <;> rfl
  · simp
theorem spec_isVec (v : List Int) (hb : v.length < 2000000) : M.spec_isVector v = some (isVec v) := by
  unfold M.spec_isVector
  by_cases hl : v.length = 4
  · have e : ((v.length : Int) == 4) = true := by simp; omega
    simp [e, spec_all v _ _ hb, isVec, hl]
  · have e : ((v.length : Int) == 4) = false := by simp; omega
    simp [e, isVec, hl]
end Go.Vs

namespace Go.Vs

end Go.Vs

namespace Go.Vs

theorem loop4 {S R : Type} {f : S → Option (S ⊕ R)} {s0 s1 s2 s3 s4 : S} {r : R} (h0 : f s0 = some (.inl s1)) (h1 : f s1 = some (.inl s2)) (h2 : f s2 = some (.inl s3)) (h3 : f s3 = some (.inl s4)) (h4 : f s4 = some (.inr r)) : loopM f s0 = some r := by
  rw [loopM_eq, h0, Option.bind_some, selim, loopM_eq, h1, Option.bind_some, selim, loopM_eq, h2, Option.bind_some, selim, loopM_eq, h3, Option.bind_some, selim, loopM_eq, h4]; rfl
theorem gi0 {α : Type} {a : α} {l : List α} : gidx (a :: l) 0 = some a := gidx_nat (i := 0) (by simp)
theorem gi1 {α : Type} {a b : α} {l : List α} : gidx (a :: b :: l) 1 = some b := gidx_nat (i := 1) (by simp)
theorem gi2 {α : Type} {a b c : α} {l : List α} : gidx (a :: b :: c :: l) 2 = some c := gidx_nat (i := 2) (by simp)
theorem gi3 {α : Type} {a b c d : α} {l : List α} : gidx (a :: b :: c :: d :: l) 3 = some d := gidx_nat (i := 3) (by simp)
theorem i01 : w64 ((0 : Int) + 1) = 1 := w64_id (by omega) (by omega)
theorem i12 : w64 ((1 : Int) + 1) = 2 := w64_id (by omega) (by omega)
theorem i23 : w64 ((2 : Int) + 1) = 3 := w64_id (by omega) (by omega)
theorem i34 : w64 ((3 : Int) + 1) = 4 := w64_id (by omega) (by omega)
theorem d04 : decide ((0 : Int) < 4) = true := rfl
theorem d14 : decide ((1 : Int) < 4) = true := rfl
theorem d24 : decide ((2 : Int) < 4) = true := rfl
theorem d34 : decide ((3 : Int) < 4) = true := rfl
theorem d44 : decide ((4 : Int) < 4) = false := rfl
theorem l4 {α : Type} {a b c d : α} : (([a, b, c, d] : List α).length : Int) = 4 := rfl

/-- How far two coordinates lie apart. -/
def gap (x y : Int) : Int := max (x - y) (y - x)
theorem gap_nonneg (x y : Int) : 0 ≤ gap x y := by unfold gap; omega
/-- A coordinate. -/
def Co (x : Int) : Prop := -100 ≤ x ∧ x ≤ 100
theorem gap_le {x y : Int} (hx : Co x) (hy : Co y) : gap x y ≤ 200 := by unfold gap; unfold Co at hx hy; omega
theorem sq_bounds {g : Int} (h0 : 0 ≤ g) (h : g ≤ 200) : 0 ≤ g * g ∧ g ≤ g * g ∧ g * g ≤ 40000 := by
  refine ⟨Int.mul_nonneg h0 h0, ?_, ?_⟩
  · by_cases h1 : g = 0
    · subst h1; simp
    · have := Int.mul_le_mul_of_nonneg_right (show (1 : Int) ≤ g by omega) h0; omega
  · have := Int.mul_le_mul h h h0 (by omega); omega
/-- The distance of a kind, from the gaps. -/
def dk (k g0 g1 g2 g3 : Int) : Int :=
  if k = 1 then g0 + g1 + g2 + g3 else if k = 2 then max (max (max (max 0 g0) g1) g2) g3 else if k = 3 then g0 * g0 + g1 * g1 + g2 * g2 + g3 * g3 else if k = 4 then min g0 1 + min g1 1 + min g2 1 + min g3 1 else -1

end Go.Vs

namespace Go.Vs

/-- What Distance answers. -/
def dist (k : Int) (a b : List Int) : Int :=
  if isVec a = true ∧ isVec b = true then dk k (gap (a.getD 0 0) (b.getD 0 0)) (gap (a.getD 1 0) (b.getD 1 0)) (gap (a.getD 2 0) (b.getD 2 0)) (gap (a.getD 3 0) (b.getD 3 0)) else -1
theorem isVec_cut {v : List Int} (h : isVec v = true) : ∃ a b c d, v = [a, b, c, d] ∧ Co a ∧ Co b ∧ Co c ∧ Co d := isVec_four h

theorem equalInts_ok {a b : List Int} (ha : a.length < 2000000) : M.laws_equalInts a b = some (decide (a = b)) := by
  unfold M.laws_equalInts
  by_cases hl : a.length = b.length
  · have e : ((a.length : Int) != (b.length : Int)) = false := by simp; omega
    simp only [e, cond_false]
    rw [loop_all (xs := a.zip b) (P := fun p => p.1 == p.2) (r := false)]
    · by_cases h : a = b
      · subst h
        have : (a.zip a).all (fun p => p.1 == p.2) = true := by
          rw [List.all_eq_true]; intro p hp
          obtain ⟨i, hi, rfl⟩ := List.mem_iff_getElem.1 hp
          simp
        rw [if_pos this]; simp [selim]
      · have : ¬ (a.zip b).all (fun p => p.1 == p.2) = true := by
          intro hh; apply h
          apply List.ext_getElem hl
          intro i h1 h2
          rw [List.all_eq_true] at hh
          have := hh (a[i], b[i]) (List.mem_iff_getElem.2 ⟨i, by simp; omega, by simp⟩)
          simpa using this
        rw [if_neg this]; simp [selim, h]
    · intro i hi
      have hi1 : i < a.length := by simp at hi; omega
      have hi2 : i < b.length := by simp at hi; omega
      have e1 : decide ((i : Int) < (a.length : Int)) = true := by simpa using hi1
      have e2 : w64 ((i : Int) + 1) = (i : Int) + 1 := w64_id (by omega) (by omega)
      simp only [e1, cond_true, gidx_nat hi1, gidx_nat hi2, Option.bind_some, e2, List.getElem_zip]
      by_cases hc : a[i] = b[i]
      · simp [hc]
      · have hb : (a[i] == b[i]) = false := by simpa using hc
        have hb' : (a[i] != b[i]) = true := by simpa using hc
        simp [hb, hb']
    · have : (a.zip b).length = a.length := by simp; omega
      rw [this]; simp
  · have e : ((a.length : Int) != (b.length : Int)) = true := by simp; omega
    have : a ≠ b := fun h => hl (by rw [h])
    simp [e, this]

/-- Gaps of two vectors. -/
structure Gaps (g0 g1 g2 g3 : Int) : Prop where
  n0 : 0 ≤ g0
  n1 : 0 ≤ g1
  n2 : 0 ≤ g2
  n3 : 0 ≤ g3
  m0 : g0 ≤ 200
  m1 : g1 ≤ 200
  m2 : g2 ≤ 200
  m3 : g3 ≤ 200
end Go.Vs

namespace Go.Vs

/-- The product of two vectors. -/
def dotv (a b : List Int) : Int := a.getD 0 0 * b.getD 0 0 + a.getD 1 0 * b.getD 1 0 + a.getD 2 0 * b.getD 2 0 + a.getD 3 0 * b.getD 3 0
theorem mul_bounds {x y : Int} (hx : Co x) (hy : Co y) : -10000 ≤ x * y ∧ x * y ≤ 10000 := by
  have h1 := sq_bounds (gap_nonneg x y) (gap_le hx hy)
  unfold Co at hx hy
  have k1 : (100 - x) * (100 - y) ≥ 0 := Int.mul_nonneg (by omega) (by omega)
  have k2 : (100 + x) * (100 + y) ≥ 0 := Int.mul_nonneg (by omega) (by omega)
  have k3 : (100 - x) * (100 + y) ≥ 0 := Int.mul_nonneg (by omega) (by omega)
  have k4 : (100 + x) * (100 - y) ≥ 0 := Int.mul_nonneg (by omega) (by omega)
  have e1 : (100 - x) * (100 - y) = 10000 - 100 * x - 100 * y + x * y := by grind
  have e2 : (100 + x) * (100 + y) = 10000 + 100 * x + 100 * y + x * y := by grind
  have e3 : (100 - x) * (100 + y) = 10000 - 100 * x + 100 * y - x * y := by grind
  have e4 : (100 + x) * (100 - y) = 10000 + 100 * x - 100 * y - x * y := by grind
  omega
theorem dot_loop {f : Int × Int → Option ((Int × Int) ⊕ Int)} {a b c d x y z w : Int} (ha : Co a) (hb : Co b) (hc : Co c) (hd : Co d) (hx : Co x) (hy : Co y) (hz : Co z) (hw : Co w)
    (h0 : f (0, 0) = some (.inl (w64 (0 + w64 (a * x)), w64 (0 + 1)))) (h1 : ∀ n, f (n, 1) = some (.inl (w64 (n + w64 (b * y)), w64 (1 + 1)))) (h2 : ∀ n, f (n, 2) = some (.inl (w64 (n + w64 (c * z)), w64 (2 + 1)))) (h3 : ∀ n, f (n, 3) = some (.inl (w64 (n + w64 (d * w)), w64 (3 + 1)))) (h4 : ∀ n, f (n, 4) = some (.inr n)) :
    loopM f (0, 0) = some (a * x + b * y + c * z + d * w) := by
  have m0 := mul_bounds ha hx
  have m1 := mul_bounds hb hy
  have m2 := mul_bounds hc hz
  have m3 := mul_bounds hd hw
  have q0 : w64 (a * x) = a * x := w64_id (by omega) (by omega)
  have q1 : w64 (b * y) = b * y := w64_id (by omega) (by omega)
  have q2 : w64 (c * z) = c * z := w64_id (by omega) (by omega)
  have q3 : w64 (d * w) = d * w := w64_id (by omega) (by omega)
  have e0 : w64 (0 + a * x) = a * x := by rw [w64_id (by omega) (by omega)]; omega
  have e1 : w64 (a * x + b * y) = a * x + b * y := w64_id (by omega) (by omega)
  have e2 : w64 (a * x + b * y + c * z) = a * x + b * y + c * z := w64_id (by omega) (by omega)
  have e3 : w64 (a * x + b * y + c * z + d * w) = a * x + b * y + c * z + d * w := w64_id (by omega) (by omega)
  refine loop4 (s1 := (a * x, 1)) (s2 := (a * x + b * y, 2)) (s3 := (a * x + b * y + c * z, 3)) (s4 := (a * x + b * y + c * z + d * w, 4)) ?_ ?_ ?_ ?_ ?_
  · rw [h0, q0, e0, i01]
  · rw [h1, q1, e1, i12]
  · rw [h2, q2, e2, i23]
  · rw [h3, q3, e3, i34]
  · rw [h4]

/-- What DotOf answers. -/
def dotOf (a b : List Int) : Int × Bool := if isVec a = true ∧ isVec b = true then (dotv a b, true) else (0, false)
theorem implDot_ok {a b : List Int} (ha : a.length < 2000000) (hb : b.length < 2000000) : M.impl_DotOf a b = some (dotOf a b) := by
  unfold M.impl_DotOf
  simp only [impl_valid a ha, Option.bind_some]
  by_cases va : isVec a = true
  · simp only [va, Bool.not_true, cond_false, impl_valid b hb, Option.bind_some]
    by_cases vb : isVec b = true
    · simp only [vb, Bool.not_true, cond_false, dotOf, va, and_self, if_true]
      obtain ⟨x0, x1, x2, x3, rfl, c0, c1, c2, c3⟩ := isVec_cut va
      obtain ⟨y0, y1, y2, y3, rfl, e0, e1, e2, e3⟩ := isVec_cut vb
      rw [dot_loop c0 c1 c2 c3 e0 e1 e2 e3]
      · rfl
      · simp only [d04, gi0, cond_true, Option.bind_some]
      · intro n; simp only [d14, gi1, cond_true, Option.bind_some]
      · intro n; simp only [d24, gi2, cond_true, Option.bind_some]
      · intro n; simp only [d34, gi3, cond_true, Option.bind_some]
      · intro n; simp only [d44, cond_false]
    · have vb' : isVec b = false := by simpa using vb
      simp [vb', dotOf]
  · have va' : isVec a = false := by simpa using va
    simp [va', dotOf]
theorem dotOf_vec {a b : List Int} (ha : isVec a = true) (hb : isVec b = true) : dotOf a b = (dotv a b, true) := by unfold dotOf; rw [if_pos ⟨ha, hb⟩]

end Go.Vs

namespace Go.Vs

end Go.Vs

namespace Go.Vs

theorem map_loop {α β : Type} {a : List α} {z : β} {g : α → β} (ha : a.length ≤ 1048576) {f : List β × Int → Option ((List β × Int) ⊕ List β)}
    (hs : ∀ (s : List β) (i : Nat) (h : i < a.length) (h' : i < s.length), f (s, (i : Int)) = some (.inl (s.set i (g a[i]), ((i + 1 : Nat) : Int)))) (he : ∀ s, f (s, (a.length : Int)) = some (.inr s)) :
    loopM f (List.replicate a.length z, 0) = some (a.map g) := by
  have hloop := loop_run (R := List β) (f := f) (r := a.map g) a.length (fun i => ((a.take i).map g ++ List.replicate (a.length - i) z, (i : Int))) (by
    intro i hi
    have hl : i < ((a.take i).map g ++ List.replicate (a.length - i) z).length := by simp; omega
    rw [hs _ i hi hl]
    have hr : List.replicate (a.length - i) z = z :: List.replicate (a.length - (i + 1)) z := by
      rw [show a.length - i = (a.length - (i + 1)) + 1 by omega, List.replicate_succ]
    rw [List.take_succ_eq_append_getElem hi, hr, List.set_append_right _ _ (by simp; omega)]
    have : i - ((a.take i).map g).length = 0 := by simp; omega
    rw [this]; simp only [List.set_cons_zero, List.append_assoc, List.cons_append, List.nil_append, List.map_append, List.map_cons, List.map_nil]) (by
    rw [he]; simp)
  simpa using hloop
end Go.Vs

namespace Go.Vs

end Go.Vs

namespace Go.Vs

theorem toIntS_ok {a : List Int} (h : a.length ≤ 1048576) : M.laws_toIntS a = some a := by
  unfold M.laws_toIntS
  rw [gmake_ok (by omega) (by omega)]
  simp only [Option.bind_some, Int.toNat_natCast]
  have hloop := loop_run (R := List Int) (f := fun (s10 : (List Int) × (Int)) => (bif decide (s10.2 < (a.length : Int)) then
  (gidx a s10.2).bind fun x18 =>
  (gidx s10.1 s10.2).bind fun x23 =>
  some (.inl ((s10.1.set s10.2.toNat x18), w64 (s10.2 + 1)))
 else
  some (.inr s10.1))) (r := a) a.length (fun i => (a.take i ++ List.replicate (a.length - i) 0, (i : Int))) (by
    intro i hi
    have e1 : decide ((i : Int) < (a.length : Int)) = true := by simpa using hi
    have e2 : w64 ((i : Int) + 1) = ((i + 1 : Nat) : Int) := w64_id (by omega) (by omega)
    have hl : i < (a.take i ++ List.replicate (a.length - i) (0 : Int)).length := by simp; omega
    simp only [e1, cond_true, gidx_nat hi, gidx_nat hl, Option.bind_some, e2, Int.toNat_natCast, Option.some.injEq, Sum.inl.injEq, Prod.mk.injEq, and_true]
    rw [List.take_succ_eq_append_getElem hi]
    have hr : List.replicate (a.length - i) (0 : Int) = 0 :: List.replicate (a.length - (i + 1)) 0 := by
      rw [show a.length - i = (a.length - (i + 1)) + 1 by omega, List.replicate_succ]
    rw [hr, List.set_append_right _ _ (by simp; omega)]
    have : i - (a.take i).length = 0 := by simp; omega
    rw [this]; simp only [List.set_cons_zero, List.append_assoc, List.cons_append, List.nil_append]) (by
    have e1 : decide (((a.length : Nat) : Int) < (a.length : Int)) = false := by simp
    simp only [e1, cond_false, List.take_length, Nat.sub_self, List.replicate_zero, List.append_nil])
  simp only [List.take_zero, List.nil_append, Nat.sub_zero, Int.cast_ofNat_Int] at hloop
  rw [hloop]; rfl
theorem eqIntS_ok {a b : List Int} (ha : a.length < 2000000) : M.laws_eqIntS a b = some (decide (a = b)) := equalInts_ok ha

end Go.Vs

namespace Go.Vs

end Go.Vs

namespace Go.Vs

abbrev Item := Int × (List Int) × Int
/-- A valid item. -/
def isItem (x : Item) : Bool := (decide (1 ≤ x.1) && decide (x.1 ≤ 99)) && (isVec x.2.1 && (decide (0 ≤ x.2.2) && decide (x.2.2 ≤ 15)))
/-- Valid items, with ascending keys above p. -/
def okFrom : Int → List Item → Bool
  | _, [] => true
  | p, x :: l => (isItem x && decide (p < x.1)) && okFrom x.1 l
def okStore (l : List Item) : Bool := decide (l.length ≤ 16) && okFrom 0 l

theorem implItem_ok {x : Item} (h : x.2.1.length < 2000000) : M.impl_validItem (x.1, x.2.1, x.2.2) = some (isItem x) := by
  unfold M.impl_validItem M.impl_validKey M.impl_validTags isItem
  simp only [impl_valid x.2.1 h, Option.bind_some]
  by_cases h1 : 1 ≤ x.1
  · by_cases h2 : x.1 ≤ 99
    · by_cases h3 : isVec x.2.1 = true
      · by_cases h4 : 0 ≤ x.2.2
        · simp [h1, h2, h3, h4]
        · simp [h1, h2, h3, h4]
      · simp only [Bool.not_eq_true] at h3
        simp [h1, h2, h3]
    · simp [h1, h2]
  · simp [h1]
theorem specItem_ok {x : Item} (h : x.2.1.length < 2000000) : M.spec_validItem (x.1, x.2.1, x.2.2) = some (isItem x) := by
  unfold M.spec_validItem isItem
  simp only [spec_inR, spec_isVec x.2.1 h, Option.bind_some]
  cases (decide (1 ≤ x.1) && decide (x.1 ≤ 99)) <;> cases isVec x.2.1 <;> simp

theorem implStore_ok {l : List Item} (hb : ∀ x ∈ l, x.2.1.length < 2000000) : M.impl_ValidStore l = some (okStore l) := by
  unfold M.impl_ValidStore okStore
  by_cases hl : 16 < (l.length : Int)
  · have : ¬ l.length ≤ 16 := by omega
    simp [hl, this]
  have hl' : l.length ≤ 16 := by omega
  simp only [hl, decide_false, cond_false, hl', decide_true, Bool.true_and]
  have key : ∀ m k : Nat, ∀ p : Int, k + m = l.length → loopM (fun (s3 : (Int) × (Int)) => (bif decide (s3.2 < (l.length : Int)) then
  (gidx l s3.2).bind fun x8 =>
  Option.bind ((M.impl_validItem (x8.1, x8.2.1, x8.2.2)).bind fun r30 =>
  (bif !r30 then
  some true
 else
  some (decide (x8.1 ≤ s3.1)))) fun o29 =>
  (bif o29 then
  some (.inr (.inr false))
 else
  some (.inl (x8.1, w64 (s3.2 + 1))))
 else
  some (.inr (.inl ())))) (p, (k : Int)) = some (if okFrom p (l.drop k) then (.inl () : Unit ⊕ Bool) else .inr false) := by
    intro m
    induction m with
    | zero =>
      intro k p hk
      have : k = l.length := by omega
      subst this
      rw [loopM_eq]; simp [selim, okFrom]
    | succ m ih =>
      intro k p hk
      have hlt : k < l.length := by omega
      rw [loopM_eq, List.drop_eq_getElem_cons hlt]
      have e1 : decide ((k : Int) < (l.length : Int)) = true := by simpa using hlt
      have e2 : w64 ((k : Int) + 1) = ((k + 1 : Nat) : Int) := w64_id (by omega) (by omega)
      simp only [e1, cond_true, gidx_nat hlt, Option.bind_some, implItem_ok (hb _ (List.getElem_mem hlt)), e2, okFrom]
      by_cases h1 : isItem l[k] = true
      · by_cases h2 : p < l[k].1
        · have h2' : ¬ l[k].1 ≤ p := by omega
          simp only [h1, h2, h2', Bool.not_true, cond_false, Option.bind_some, decide_false, decide_true, Bool.and_self, Bool.true_and, selim]
          exact ih (k + 1) l[k].1 (by omega)
        · have h2' : l[k].1 ≤ p := by omega
          simp [h1, h2, h2', selim]
      · simp only [Bool.not_eq_true] at h1
        simp [h1, selim]
  have := key l.length 0 0 (by omega)
  simp only [Int.cast_ofNat_Int, List.drop_zero] at this
  rw [this]
  cases okFrom 0 l <;> rfl

/-- The key before a place. -/
def keyBefore (l : List Item) : Nat → Int
  | 0 => 0
  | k + 1 => (l.getD k (0, [], 0)).1
theorem specStore_ok {l : List Item} (hb : ∀ x ∈ l, x.2.1.length < 2000000) (hL : l.length < 2000000) : M.spec_validStore l = some (okStore l) := by
  unfold M.spec_validStore okStore
  have key : ∀ m k : Nat, k + m = l.length → loopM (fun (s2 : (Int)) => (bif decide (s2 < (l.length : Int)) then
  Option.bind ((gidx l s2).bind fun x8 =>
  (M.spec_validItem (x8.1, x8.2.1, x8.2.2)).bind fun r19 =>
  (bif !r19 then
  some true
 else
  (bif decide (0 < s2) then
  (gidx l s2).bind fun x24 =>
  (gidx l (w64 (s2 - 1))).bind fun x29 =>
  some (decide (x24.1 ≤ x29.1))
 else
  some false))) fun o7 =>
  (bif o7 then
  some (.inr (.inr false))
 else
  some (.inl (w64 (s2 + 1))))
 else
  some (.inr (.inl ())))) (k : Int) = some (if okFrom (keyBefore l k) (l.drop k) then (.inl () : Unit ⊕ Bool) else .inr false) := by
    intro m
    induction m with
    | zero =>
      intro k hk
      have : k = l.length := by omega
      subst this
      rw [loopM_eq]; simp [selim, okFrom]
    | succ m ih =>
      intro k hk
      have hlt : k < l.length := by omega
      rw [loopM_eq, List.drop_eq_getElem_cons hlt]
      have e1 : decide ((k : Int) < (l.length : Int)) = true := by simpa using hlt
      have e2 : w64 ((k : Int) + 1) = ((k + 1 : Nat) : Int) := w64_id (by omega) (by omega)
      have hnext : keyBefore l (k + 1) = l[k].1 := by simp [keyBefore, List.getD, hlt]
      have ih' := ih (k + 1) (by omega)
      rw [hnext] at ih'
      simp only [e1, cond_true, gidx_nat hlt, Option.bind_some, specItem_ok (hb _ (List.getElem_mem hlt)), e2, okFrom]
      by_cases h1 : isItem l[k] = true
      · simp only [h1, Bool.not_true, cond_false, Bool.true_and]
        match k, hlt with
        | 0, hlt =>
          have hpos : keyBefore l 0 < l[0].1 := by
            have : 1 ≤ l[0].1 := by
              unfold isItem at h1; simp at h1; exact h1.1.1
            show 0 < _; omega
          have e3 : decide ((0 : Int) < ((0 : Nat) : Int)) = false := rfl
          simp only [e3, cond_false, Option.bind_some, hpos, decide_true, Bool.true_and, selim]
          exact ih'
        | j + 1, hlt =>
          have e3 : decide ((0 : Int) < ((j + 1 : Nat) : Int)) = true := by simp
          have e4 : w64 (((j + 1 : Nat) : Int) - 1) = (j : Int) := by rw [w64_id (by omega) (by omega)]; omega
          have hj : j < l.length := by omega
          have hk : keyBefore l (j + 1) = l[j].1 := by simp [keyBefore, List.getD, hj]
          simp only [e3, cond_true, e4, gidx_nat hj, Option.bind_some, hk]
          by_cases h2 : l[j].1 < l[j + 1].1
          · have h2' : ¬ l[j + 1].1 ≤ l[j].1 := by omega
            simp only [h2, h2', decide_false, decide_true, cond_false, Bool.true_and, selim, Option.bind_some]
            exact ih'
          · have h2' : l[j + 1].1 ≤ l[j].1 := by omega
            simp [h2, h2', selim]
      · simp only [Bool.not_eq_true] at h1
        simp [h1, selim]
  have := key l.length 0 (by omega)
  simp only [Int.cast_ofNat_Int, List.drop_zero] at this
  rw [this]
  show _ = some (decide (l.length ≤ 16) && okFrom 0 l)
  have e : keyBefore l 0 = 0 := rfl
  rw [e]
  by_cases h16 : l.length ≤ 16
  · have : decide ((l.length : Int) ≤ 16) = true := by simp; omega
    cases okFrom 0 l <;> simp [selim, this, h16]
  · have : decide ((l.length : Int) ≤ 16) = false := by simp; omega
    cases okFrom 0 l <;> simp [selim, this, h16]
end Go.Vs

namespace Go.Vs

theorem szIntS_ok {a : List Int} {left : Int} (ha : a.length ≤ 9223372036854775807) (h0 : 0 ≤ left) (h1 : left ≤ 1048576) :
    ∃ s, M.laws_szIntS a left = some s ∧ (s < 0 ∨ (0 ≤ s ∧ s ≤ left ∧ a.length ≤ 1048576)) := by
  unfold M.laws_szIntS
  rw [w64_id (by omega) (by omega)]
  by_cases h : left - (a.length : Int) < 0
  · exact ⟨-1, by simp [h], .inl (by omega)⟩
  · exact ⟨left - a.length, by simp [h], .inr (by omega)⟩
theorem szItem_ok {x : Item} {left : Int} (ha : x.2.1.length ≤ 9223372036854775807) (h0 : 0 ≤ left) (h1 : left ≤ 1048576) :
    ∃ s, M.laws_szItem x left = some s ∧ (s < 0 ∨ (0 ≤ s ∧ s ≤ left ∧ x.2.1.length ≤ 1048576)) := by
  obtain ⟨s, e, h⟩ := szIntS_ok ha h0 h1
  unfold M.laws_szItem
  simp only [e, Option.bind_some]
  by_cases c : s < 0
  · exact ⟨-1, by simp [c], .inl (by omega)⟩
  · exact ⟨s, by simp [c], h⟩
theorem szItemS_ok {a : List Item} {left : Int} (ha : a.length ≤ 9223372036854775807) (hx : ∀ x ∈ a, x.2.1.length ≤ 9223372036854775807) (h0 : 0 ≤ left) (h1 : left ≤ 1048576) :
    ∃ s, M.laws_szItemS a left = some s ∧ (s < 0 ∨ (0 ≤ s ∧ a.length ≤ 1048576 ∧ ∀ x ∈ a, x.2.1.length ≤ 1048576)) := by
  unfold M.laws_szItemS
  rw [w64_id (by omega) (by omega)]
  by_cases h : left - (a.length : Int) < 0
  · exact ⟨-1, by simp [h], .inl (by omega)⟩
  simp only [h, decide_false, cond_false]
  have hl : a.length ≤ 1048576 := by omega
  have key : ∀ m k : Nat, ∀ l : Int, k + m = a.length → 0 ≤ l → l ≤ 1048576 → ∃ r : Int ⊕ Int, loopM (fun (s3 : (Int) × (Int)) => (bif decide (s3.2 < (a.length : Int)) then
  (gidx a s3.2).bind fun x8 =>
  (M.laws_szItem (x8.1, x8.2.1, x8.2.2) s3.1).bind fun r19 =>
  (bif decide (r19 < 0) then
  some (.inr (.inr (-1)))
 else
  some (.inl (r19, w64 (s3.2 + 1))))
 else
  some (.inr (.inl s3.1)))) (l, (k : Int)) = some r ∧ (r = .inr (-1) ∨ ∃ l', r = .inl l' ∧ 0 ≤ l' ∧ ∀ x ∈ a.drop k, x.2.1.length ≤ 1048576) := by
    intro m
    induction m with
    | zero =>
      intro k l hk hl0 _
      have : k = a.length := by omega
      subst this
      refine ⟨.inl l, ?_, .inr ⟨l, rfl, hl0, by simp⟩⟩
      rw [loopM_eq]; simp [selim]
    | succ m ih =>
      intro k l hk hl0 hl1
      have hlt : k < a.length := by omega
      have e1 : decide ((k : Int) < (a.length : Int)) = true := by simpa using hlt
      have e2 : w64 ((k : Int) + 1) = ((k + 1 : Nat) : Int) := w64_id (by omega) (by omega)
      obtain ⟨s, es, hs⟩ := szItem_ok (x := a[k]) (hx _ (List.getElem_mem hlt)) hl0 hl1
      have es' : M.laws_szItem (a[k].1, a[k].2.1, a[k].2.2) l = some s := es
      rw [loopM_eq]
      simp only [e1, cond_true, gidx_nat hlt, Option.bind_some, es', e2]
      rcases hs with hs | ⟨hs0, hs1, hs2⟩
      · exact ⟨.inr (-1), by simp [hs, selim], .inl rfl⟩
      · obtain ⟨r, hr, hr'⟩ := ih (k + 1) s (by omega) hs0 (by omega)
        refine ⟨r, ?_, ?_⟩
        · have : ¬ s < 0 := by omega
          simp only [this, decide_false, cond_false, selim, Option.bind_some]
          exact hr
        · rcases hr' with hr' | ⟨l', e, h0', hall⟩
          · exact .inl hr'
          · refine .inr ⟨l', e, h0', ?_⟩
            rw [List.drop_eq_getElem_cons hlt]
            intro x hx'
            rcases List.mem_cons.1 hx' with h | h
            · subst h; exact hs2
            · exact hall x h
  obtain ⟨r, hr, hr'⟩ := key a.length 0 (left - a.length) (by omega) (by omega) (by omega)
  simp only [Int.cast_ofNat_Int] at hr
  rw [hr]
  rcases hr' with rfl | ⟨l', rfl, h0', hall⟩
  · exact ⟨-1, rfl, .inl (by omega)⟩
  · exact ⟨l', rfl, .inr ⟨h0', hl, by simpa using hall⟩⟩

theorem eqItem_self {x : Item} (h : x.2.1.length < 2000000) : M.laws_eqItem (x.1, x.2.1, x.2.2) (x.1, x.2.1, x.2.2) = some true := by
  unfold M.laws_eqItem
  simp only [bne_self_eq_false, cond_false, eqIntS_ok h, decide_true, Bool.not_true, Option.bind_some]
theorem eqItemS_self {a : List Item} (h : a.length < 2000000) (hx : ∀ x ∈ a, x.2.1.length < 2000000) : M.laws_eqItemS a a = some true := by
  unfold M.laws_eqItemS
  simp only [bne_self_eq_false, cond_false]
  rw [loop_all (xs := a) (P := fun _ => true) (r := false)]
  · simp [selim]
  · intro i hi
    have e1 : decide ((i : Int) < (a.length : Int)) = true := by simpa using hi
    have e2 : w64 ((i : Int) + 1) = (i : Int) + 1 := w64_id (by omega) (by omega)
    simp only [e1, cond_true, gidx_nat hi, Option.bind_some, eqItem_self (hx _ (List.getElem_mem hi)), Bool.not_true, cond_false, e2, if_true]
  · simp

end Go.Vs

namespace Go.Vs

theorem w64_succ {i : Nat} (h : i < 4000000000000000000) : w64 ((i : Int) + 1) = ((i + 1 : Nat) : Int) := w64_id (by omega) (by omega)

section
variable {α S T R U : Type} {xs : List α}
theorem loop_fold (st : S → Int → T) (g : S → α → S) (Inv : Nat → S → Prop) {fin : S → R} {f : T → Option (T ⊕ R)} {s0 : S} (h0 : Inv 0 s0)
    (hs : ∀ s i (h : i < xs.length), Inv i s → f (st s (i : Int)) = some (.inl (st (g s xs[i]) ((i + 1 : Nat) : Int))) ∧ Inv (i + 1) (g s xs[i]))
    (he : ∀ s, Inv xs.length s → f (st s (xs.length : Int)) = some (.inr (fin s))) :
    loopM f (st s0 0) = some (fin (xs.foldl g s0)) ∧ Inv xs.length (xs.foldl g s0) := by
  have key : ∀ m k : Nat, ∀ s, k + m = xs.length → Inv k s → loopM f (st s (k : Int)) = some (fin ((xs.drop k).foldl g s)) ∧ Inv xs.length ((xs.drop k).foldl g s) := by
    intro m
    induction m with
    | zero =>
      intro k s hk hi
      have : k = xs.length := by omega
      subst this
      rw [loopM_eq, he s hi]; simpa [selim] using hi
    | succ m ih =>
      intro k s hk hi
      have hlt : k < xs.length := by omega
      obtain ⟨h1, h2⟩ := hs s k hlt hi
      rw [loopM_eq, h1, List.drop_eq_getElem_cons hlt]
      exact ih (k + 1) _ (by omega) h2
  have := key xs.length 0 s0 (by omega) h0
  simpa using this
/-- A loop in front of something. -/
theorem fold_bind (st : S → Int → T) (g : S → α → S) (Inv : Nat → S → Prop) (fin : S → R) {f : T → Option (T ⊕ R)} {s0 : S} {k : R → Option U} {r : Option U} (h0 : Inv 0 s0)
    (hs : ∀ s i (h : i < xs.length), Inv i s → f (st s (i : Int)) = some (.inl (st (g s xs[i]) ((i + 1 : Nat) : Int))) ∧ Inv (i + 1) (g s xs[i]))
    (he : ∀ s, Inv xs.length s → f (st s (xs.length : Int)) = some (.inr (fin s)))
    (hk : Inv xs.length (xs.foldl g s0) → k (fin (xs.foldl g s0)) = r) : (loopM f (st s0 0)).bind k = r := by
  obtain ⟨h1, h2⟩ := loop_fold st g Inv (fin := fin) h0 hs he
  rw [h1]; exact hk h2
/-- A loop that comes to r, by what holds at each round and what gets less. -/
theorem loop_to {f : T → Option (T ⊕ R)} (J : T → Prop) (μ : T → Nat) {r : R} (step : ∀ s, J s → (∃ s', f s = some (.inl s') ∧ J s' ∧ μ s' < μ s) ∨ f s = some (.inr r)) {s : T} (h : J s) : loopM f s = some r := by
  obtain ⟨r', h1, rfl⟩ := loopM_ind (f := f) J μ (fun x => x = r) (fun s hs => (step s hs).imp id (fun h => ⟨r, h, rfl⟩)) s h
  exact h1
end

/-! ## Valid stores as lists that ascend -/
theorem okFrom_iff {l : List Item} : ∀ {p : Int}, okFrom p l = true ↔ (∀ x ∈ l, isItem x = true ∧ p < x.1) ∧ l.Pairwise (fun x y => x.1 < y.1) := by
  induction l with
  | nil => intro p; simp [okFrom]
  | cons x l ih =>
    intro p
    simp only [okFrom, Bool.and_eq_true, decide_eq_true_eq, ih, List.pairwise_cons, List.mem_cons, forall_eq_or_imp]
    constructor
    · rintro ⟨⟨h1, h2⟩, h3, h4⟩
      exact ⟨⟨⟨h1, h2⟩, fun y hy => ⟨(h3 y hy).1, by have := (h3 y hy).2; omega⟩⟩, fun y hy => (h3 y hy).2, h4⟩
    · rintro ⟨⟨⟨h1, h2⟩, h3⟩, h4, h5⟩
      exact ⟨⟨h1, h2⟩, fun y hy => ⟨(h3 y hy).1, h4 y hy⟩, h5⟩
theorem isItem_iff {x : Item} : isItem x = true ↔ (1 ≤ x.1 ∧ x.1 ≤ 99) ∧ isVec x.2.1 = true ∧ 0 ≤ x.2.2 ∧ x.2.2 ≤ 15 := by
  unfold isItem; simp only [Bool.and_eq_true, decide_eq_true_eq]
theorem okStore_iff {l : List Item} : okStore l = true ↔ l.length ≤ 16 ∧ (∀ x ∈ l, isItem x = true) ∧ l.Pairwise (fun x y => x.1 < y.1) := by
  unfold okStore
  simp only [Bool.and_eq_true, decide_eq_true_eq, okFrom_iff]
  constructor
  · rintro ⟨h1, h2, h3⟩; exact ⟨h1, fun x hx => (h2 x hx).1, h3⟩
  · rintro ⟨h1, h2, h3⟩; exact ⟨h1, fun x hx => ⟨h2 x hx, by have := (isItem_iff.1 (h2 x hx)).1.1; omega⟩, h3⟩
/-- A list of items that is small enough to be looked at. -/
def SmallS (l : List Item) : Prop := l.length ≤ 1048576 ∧ ∀ x ∈ l, x.2.1.length ≤ 1048576
theorem SmallS.hb {l : List Item} (h : SmallS l) : ∀ x ∈ l, x.2.1.length < 2000000 := fun x hx => by have := h.2 x hx; omega
theorem SmallS.hL {l : List Item} (h : SmallS l) : l.length < 2000000 := by have := h.1; omega
theorem SmallS.impl {l : List Item} (h : SmallS l) : M.impl_ValidStore l = some (okStore l) := implStore_ok h.hb
theorem SmallS.specv {l : List Item} (h : SmallS l) : M.spec_validStore l = some (okStore l) := specStore_ok h.hb h.hL
/-! ## Putting -/
/-! ## Draws -/
/-- An item that may be drawn. -/
def NearI (x : Item) : Prop := (0 ≤ x.1 ∧ x.1 ≤ 100) ∧ Near x.2.1 ∧ -1 ≤ x.2.2 ∧ x.2.2 ≤ 16
end Go.Vs

namespace Go.Vs

end Go.Vs

namespace Go.Vs

section
variable {α S T R U : Type} {xs : List α}
end

theorem isItem_vec {x : Item} (h : isItem x = true) : isVec x.2.1 = true := (isItem_iff.1 h).2.1

end Go.Vs

namespace Go.Vs

theorem keysOf_ok {l : List Item} (hl : l.length ≤ 1000000) : M.impl_keysOf l = some (l.map (·.1)) := by
  unfold M.impl_keysOf
  rw [gmake_ok (by omega) (by omega), Option.bind_some, Int.toNat_natCast]
  rw [map_loop (g := fun x : Item => x.1) (by omega)]
  · rfl
  · intro s i hi hi'
    have e5 : decide ((i : Int) < (l.length : Int)) = true := decide_eq_true (by omega)
    simp only [e5, cond_true, gidx_nat hi, gidx_nat hi', Option.bind_some, w64_succ (i := i) (by omega), Int.toNat_natCast]
  · intro s; simp
/-! ## InBox -/
end Go.Vs

namespace Go.Vs

end Go.Vs

namespace Go.Vs

/-! ## What is drawn -/
theorem NearI.le {x : Item} (h : NearI x) : x.2.1.length ≤ 1048576 := by have := h.2.1.1; omega
section
variable {code : List UInt8}
end
end Go.Vs

namespace Go.Vs

end Go.Vs

namespace Go.Vs

/-- k, k + 1, .. -/
def upFrom (k : Int) (n : Nat) : List Int := (List.range n).map fun i : Nat => k + (i : Int)
theorem upFrom_len {k : Int} {n : Nat} : (upFrom k n).length = n := by simp [upFrom]
theorem upFrom_get {k : Int} {n i : Nat} (h : i < (upFrom k n).length) : (upFrom k n)[i] = k + (i : Int) := by simp [upFrom]
theorem markIntS_ok {a : List Int} {k : Int} (ha : a.length < 2000000) (h0 : 0 ≤ k) (h1 : k ≤ 2000000000000000) : M.laws_markIntS a k = some (k + (a.length : Int), upFrom k a.length) := by
  unfold M.laws_markIntS
  have hloop := loop_run (R := List Int × Int) (f := fun (s2 : (List Int) × (Int) × (Int)) => (bif decide (s2.2.2 < (s2.1.length : Int)) then
  (gidx s2.1 s2.2.2).bind fun x6 =>
  some (.inl ((s2.1.set s2.2.2.toNat s2.2.1), w64 (s2.2.1 + 1), w64 (s2.2.2 + 1)))
 else
  some (.inr (s2.1, s2.2.1)))) (r := (upFrom k a.length, k + (a.length : Int))) a.length (fun i => (upFrom k i ++ a.drop i, k + (i : Int), (i : Int))) (by
    intro i hi
    have hl : (upFrom k i ++ a.drop i).length = a.length := by rw [List.length_append, upFrom_len, List.length_drop]; omega
    have e1 : decide ((i : Int) < ((upFrom k i ++ a.drop i).length : Int)) = true := decide_eq_true (by omega)
    have e2 : w64 ((i : Int) + 1) = ((i + 1 : Nat) : Int) := w64_id (by omega) (by omega)
    have e3 : w64 (k + (i : Int) + 1) = k + ((i + 1 : Nat) : Int) := by rw [w64_id (by omega) (by omega)]; omega
    have hl' : i < (upFrom k i ++ a.drop i).length := by omega
    simp only [e1, cond_true, gidx_nat hl', Option.bind_some, e2, e3, Int.toNat_natCast, Option.some.injEq, Sum.inl.injEq, Prod.mk.injEq, and_true]
    rw [List.set_append_right _ _ (by rw [upFrom_len]; omega), upFrom_len, Nat.sub_self, List.drop_eq_getElem_cons hi, List.set_cons_zero]
    simp [upFrom, List.range_succ]) (by
    have e1 : decide (((a.length : Nat) : Int) < ((upFrom k a.length ++ a.drop a.length).length : Int)) = false := decide_eq_false (by rw [List.length_append, upFrom_len]; simp)
    simp only [List.drop_length, List.append_nil] at e1 ⊢
    simp only [e1, cond_false])
  simp only [upFrom, List.range_zero, List.map_nil, List.nil_append, List.drop_zero, Int.cast_ofNat_Int, Int.add_zero] at hloop
  rw [hloop]; rfl
theorem heldIntS_ok {n : Nat} {k : Int} (ha : n < 2000000) (h0 : 0 ≤ k) (h1 : k ≤ 2000000000000000) : M.laws_heldIntS (upFrom k n) k = some (k + (n : Int)) := by
  unfold M.laws_heldIntS
  have hloop := loop_run (R := Int ⊕ Int) (f := fun (s2 : (Int) × (Int)) => (bif decide (s2.2 < ((upFrom k n).length : Int)) then
  (gidx (upFrom k n) s2.2).bind fun x7 =>
  (bif x7 != s2.1 then
  some (.inr (.inr (-1)))
 else
  some (.inl (w64 (s2.1 + 1), w64 (s2.2 + 1))))
 else
  some (.inr (.inl s2.1)))) (r := .inl (k + (n : Int))) n (fun i => (k + (i : Int), (i : Int))) (by
    intro i hi
    have hl : i < (upFrom k n).length := by rw [upFrom_len]; exact hi
    have e1 : decide ((i : Int) < ((upFrom k n).length : Int)) = true := decide_eq_true (by omega)
    have e2 : w64 ((i : Int) + 1) = ((i + 1 : Nat) : Int) := w64_id (by omega) (by omega)
    have e3 : w64 (k + (i : Int) + 1) = k + ((i + 1 : Nat) : Int) := by rw [w64_id (by omega) (by omega)]; omega
    simp only [e1, cond_true, gidx_nat hl, upFrom_get, Option.bind_some, e2, e3, bne_self_eq_false, cond_false]) (by
    have e1 : decide ((n : Int) < ((upFrom k n).length : Int)) = false := decide_eq_false (by rw [upFrom_len]; omega)
    simp only [e1, cond_false])
  simp only [Int.cast_ofNat_Int, Int.add_zero] at hloop
  rw [hloop]; rfl
end Go.Vs

namespace Go.Vs

theorem dItemS_ok {a : List Item} (h : a.length ≤ 1048576) (hx : ∀ x ∈ a, x.2.1.length ≤ 1048576) : M.dItemS a = some a := by
  unfold M.dItemS
  rw [if_pos ⟨by omega, fun x hx' => toIntS_ok (hx x hx')⟩]
theorem dIntSS_ok {a : List (List Int)} (h : a.length ≤ 1048576) (hx : ∀ x ∈ a, x.length ≤ 1048576) : M.dIntSS a = some a := by
  unfold M.dIntSS
  rw [if_pos ⟨by omega, fun x hx' => toIntS_ok (hx x hx')⟩]
theorem dmarkItemS_ok : ∀ (a : List Item) (k : Int), (∀ x ∈ a, x.2.1.length ≤ 1048576) → 0 ≤ k → k + a.length * 1048578 ≤ 1999999999999990 → ∃ r, M.dmarkItemS a k = some r ∧ k ≤ r ∧ r ≤ k + a.length * 1048578
  | [], k, _, _, _ => ⟨k, rfl, Int.le_refl _, by simp⟩
  | x :: a, k, hx, h0, h1 => by
    have hl := hx x (by simp)
    have h2 : ((x :: a).length : Int) = a.length + 1 := by simp
    rw [h2] at h1
    have e1 : w64 (k + 1) = k + 1 := w64_id (by omega) (by omega)
    have hm := markIntS_ok (a := x.2.1) (k := k + 1) (by omega) (by omega) (by omega)
    have e2 : w64 (k + 1 + (x.2.1.length : Int) + 1) = k + 1 + (x.2.1.length : Int) + 1 := w64_id (by omega) (by omega)
    obtain ⟨r, hr, g1, g2⟩ := dmarkItemS_ok a (k + 1 + (x.2.1.length : Int) + 1) (fun y hy => hx y (by simp [hy])) (by omega) (by omega)
    refine ⟨r, ?_, by omega, by rw [h2]; omega⟩
    simp only [M.dmarkItemS, e1, hm, Option.bind_some, e2, hr]
theorem dmarkIntSS_ok : ∀ (a : List (List Int)) (k : Int), (∀ x ∈ a, x.length ≤ 1048576) → 0 ≤ k → k + a.length * 1048578 ≤ 1999999999999990 → ∃ r, M.dmarkIntSS a k = some r ∧ k ≤ r ∧ r ≤ k + a.length * 1048578
  | [], k, _, _, _ => ⟨k, rfl, Int.le_refl _, by simp⟩
  | x :: a, k, hx, h0, h1 => by
    have hl := hx x (by simp)
    have h2 : ((x :: a).length : Int) = a.length + 1 := by simp
    rw [h2] at h1
    have hm := markIntS_ok (a := x) (k := k) (by omega) (by omega) (by omega)
    obtain ⟨r, hr, g1, g2⟩ := dmarkIntSS_ok a (k + (x.length : Int)) (fun y hy => hx y (by simp [hy])) (by omega) (by omega)
    refine ⟨r, ?_, by omega, by rw [h2]; omega⟩
    simp only [M.dmarkIntSS, hm, Option.bind_some, hr]
theorem markIntSD_ok {a : List (List Int)} (h : a.length ≤ 1048576) (hx : ∀ x ∈ a, x.length ≤ 1048576) : ∃ r, M.markIntSD a 1 = some r ∧ 1 ≤ r ∧ r ≤ 1100000000000 := by
  obtain ⟨r, hr, h1, h2⟩ := dmarkIntSS_ok a 1 hx (by omega) (by omega)
  refine ⟨r, ?_, h1, by omega⟩
  unfold M.markIntSD
  rw [if_pos (by omega), hr]
theorem markItemD_at {a : List Item} {k : Int} (h : a.length ≤ 1048576) (hx : ∀ x ∈ a, x.2.1.length ≤ 1048576) (h0 : 0 ≤ k) (h1 : k ≤ 100000000000000) : ∃ r, M.markItemD a k = some r ∧ k ≤ r ∧ r ≤ k + 1100000000000 := by
  obtain ⟨r, hr, h1, h2⟩ := dmarkItemS_ok a k hx (by omega) (by omega)
  refine ⟨r, ?_, h1, by omega⟩
  unfold M.markItemD
  rw [if_pos (by omega), hr]
theorem one0 : (0 : Int) ≤ 1 := by omega
theorem one1 : (1 : Int) ≤ 2000000000000000 := by omega

theorem eqIntSS_self {a : List (List Int)} (h : a.length < 2000000) (hx : ∀ x ∈ a, x.length < 2000000) : M.laws_eqIntSS a a = some true := by
  unfold M.laws_eqIntSS
  simp only [bne_self_eq_false, cond_false]
  rw [loop_all (xs := a) (P := fun _ => true) (r := false)]
  · simp [selim]
  · intro i hi
    have e1 : decide ((i : Int) < (a.length : Int)) = true := by simpa using hi
    have e2 : w64 ((i : Int) + 1) = (i : Int) + 1 := w64_id (by omega) (by omega)
    simp only [e1, cond_true, gidx_nat hi, Option.bind_some, eqIntS_ok (hx _ (List.getElem_mem hi)), decide_true, Bool.not_true, cond_false, e2, if_true]
  · simp
end Go.Vs

namespace Go.Vs

noncomputable def G.sift {α : Type} (cmp : α → α → Option Int) (data_0 : List α) (lo_1 : Int) (hi_2 : Int) (first_3 : Int) : Option ((List α)) :=
  Option.bind (loopM (fun (s2 : (List α) × (Int)) => (bif decide (hi_2 ≤ (w64 ((w64 (2 * s2.2)) + 1))) then
  some (.inr (.inl s2.1))
 else
  Option.bind ((bif decide ((w64 ((w64 ((w64 (2 * s2.2)) + 1)) + 1)) < hi_2) then
  (gidx s2.1 (w64 (first_3 + (w64 ((w64 (2 * s2.2)) + 1))))).bind fun x8 =>
  (gidx s2.1 (w64 ((w64 (first_3 + (w64 ((w64 (2 * s2.2)) + 1)))) + 1))).bind fun x15 =>
  (cmp x8 x15).bind fun r23 =>
  some (decide (r23 < 0))
 else
  some false)) fun o6 =>
  Option.bind ((bif o6 then
  some (w64 ((w64 ((w64 (2 * s2.2)) + 1)) + 1))
 else
  some (w64 ((w64 (2 * s2.2)) + 1)))) fun o29 =>
  (gidx s2.1 (w64 (first_3 + s2.2))).bind fun x32 =>
  (gidx s2.1 (w64 (first_3 + o29))).bind fun x39 =>
  (cmp x32 x39).bind fun r47 =>
  (bif !(decide (r47 < 0)) then
  some (.inr (.inr s2.1))
 else
  (gidx s2.1 (w64 (first_3 + o29))).bind fun x52 =>
  (gidx s2.1 (w64 (first_3 + s2.2))).bind fun x59 =>
  (gidx s2.1 (w64 (first_3 + s2.2))).bind fun x66 =>
  (gidx (s2.1.set (w64 (first_3 + s2.2)).toNat x52) (w64 (first_3 + o29))).bind fun x72 =>
  some (.inl (((s2.1.set (w64 (first_3 + s2.2)).toNat x52).set (w64 (first_3 + o29)).toNat x59), o29))))) (data_0, lo_1)) (selim (fun t78 => some t78)
   (fun t81 => some t81))

noncomputable def G.heap {α : Type} (cmp : α → α → Option Int) (data_0 : List α) (a_1 : Int) (b_2 : Int) : Option ((List α)) :=
  Option.bind (loopM (fun (s2 : (List α) × (Int)) => (bif decide (0 ≤ s2.2) then
  (G.sift cmp s2.1 s2.2 (w64 (b_2 - a_1)) a_1).bind fun r6 =>
  some (.inl (r6, w64 (s2.2 - 1)))
 else
  some (.inr s2.1))) (data_0, w64 ((w64 ((w64 (b_2 - a_1)) - 1)).tdiv 2))) fun o1 =>
  Option.bind (loopM (fun (s14 : (List α) × (Int)) => (bif decide (0 ≤ s14.2) then
  (gidx s14.1 (w64 (a_1 + s14.2))).bind fun x18 =>
  (gidx s14.1 a_1).bind fun x25 =>
  (gidx s14.1 a_1).bind fun x32 =>
  (gidx (s14.1.set a_1.toNat x18) (w64 (a_1 + s14.2))).bind fun x38 =>
  (G.sift cmp ((s14.1.set a_1.toNat x18).set (w64 (a_1 + s14.2)).toNat x25) 0 s14.2 a_1).bind fun r44 =>
  some (.inl (r44, w64 (s14.2 - 1)))
 else
  some (.inr s14.1))) (o1, w64 ((w64 (b_2 - a_1)) - 1))) fun o13 =>
  some o13

noncomputable def G.o2 {α : Type} (cmp : α → α → Option Int) (data_0 : List α) (a_1 : Int) (b_2 : Int) (swaps_3 : Int) : Option (Int × Int × Int) :=
  (gidx data_0 b_2).bind fun x1 =>
  (gidx data_0 a_1).bind fun x8 =>
  (cmp x1 x8).bind fun r16 =>
  (bif decide (r16 < 0) then
  some (b_2, a_1, w64 (swaps_3 + 1))
 else
  some (a_1, b_2, swaps_3))

section
end
end Go.Vs

namespace Go.Vs

section
variable {α : Type} [Inhabited α]
def el (d : List α) (i : Nat) : α := d.getD i default
theorem el_lt {d : List α} {i : Nat} (h : i < d.length) : el d i = d[i] := by simp [el, List.getD, h]
/-- d' is d with the places a ≤ i < b permuted among themselves. -/
structure PermR (a b : Nat) (d d' : List α) : Prop where
  len : d'.length = d.length
  out : ∀ i, i < a ∨ b ≤ i → el d' i = el d i
  perm : d'.Perm d
theorem PermR.refl {a b : Nat} (d : List α) : PermR a b d d := ⟨rfl, fun _ _ => rfl, List.Perm.refl _⟩
theorem PermR.trans {a b : Nat} {d d' d'' : List α} (h : PermR a b d d') (k : PermR a b d' d'') : PermR a b d d'' :=
  ⟨k.len.trans h.len, fun i hi => (k.out i hi).trans (h.out i hi), k.perm.trans h.perm⟩
theorem PermR.mono {a b a' b' : Nat} {d d' : List α} (h : PermR a b d d') (ha : a' ≤ a) (hb : b ≤ b') : PermR a' b' d d' :=
  ⟨h.len, fun i hi => h.out i (by omega), h.perm⟩
/-- What is in the part is in the part. -/
theorem PermR.mem {a b : Nat} {d d' : List α} (h : PermR a b d d') (hab : a ≤ b) (hb : b ≤ d.length) {i : Nat} (h1 : a ≤ i) (h2 : i < b) : ∃ j, a ≤ j ∧ j < b ∧ el d' i = el d j := by
  have cut : ∀ (e : List α), e.length = d.length → e = e.take a ++ ((e.take b).drop a ++ e.drop b) := by
    intro e he
    rw [← List.append_assoc]
    have : e.take a ++ (e.take b).drop a = e.take b := by
      have := List.take_append_drop a (e.take b)
      rwa [List.take_take, Nat.min_eq_left hab] at this
    rw [this, List.take_append_drop]
  have hl := h.len
  have e1 : d'.take a = d.take a := by
    apply List.ext_getElem
    · simp [hl]
    · intro k h3 h4
      simp only [List.length_take] at h3 h4
      rw [List.getElem_take, List.getElem_take, ← el_lt, ← el_lt]
      exact h.out k (by omega)
  have e2 : d'.drop b = d.drop b := by
    apply List.ext_getElem
    · simp [hl]
    · intro k h3 h4
      simp only [List.length_drop] at h3 h4
      rw [List.getElem_drop, List.getElem_drop, ← el_lt, ← el_lt]
      exact h.out (b + k) (by omega)
  have hp := h.perm
  rw [cut d' hl, cut d rfl, e1, e2] at hp
  have hp2 := (List.perm_append_right_iff _).1 ((List.perm_append_left_iff _).1 hp)
  have hm : el d' i ∈ (d'.take b).drop a := by
    rw [el_lt (by omega)]
    refine List.mem_iff_getElem.2 ⟨i - a, by simp; omega, ?_⟩
    simp only [List.getElem_drop, List.getElem_take]
    congr 1; omega
  have hm2 := hp2.mem_iff.1 hm
  obtain ⟨k, hk, e⟩ := List.mem_iff_getElem.1 hm2
  simp only [List.length_drop, List.length_take] at hk
  refine ⟨a + k, by omega, by omega, ?_⟩
  rw [← e, el_lt (by omega)]
  simp only [List.getElem_drop, List.getElem_take]
end

/-- What is asked of the order of these elements. -/
structure Lin {α : Type} (lt : α → α → Bool) (p : α → Prop) : Prop where
  irrefl : ∀ x, p x → lt x x = false
  trans : ∀ x y z, p x → p y → p z → lt x y = true → lt y z = true → lt x z = true
  total : ∀ x y, p x → p y → x ≠ y → lt x y = true ∨ lt y x = true
theorem Lin.asymm {α : Type} {lt : α → α → Bool} {p : α → Prop} (h : Lin lt p) {x y : α} (hx : p x) (hy : p y) (hl : lt x y = true) : lt y x = false := by
  cases e : lt y x with
  | false => rfl
  | true => have := h.trans x y x hx hy hx hl e; rw [h.irrefl x hx] at this; cases this
/-- Not less than: transitive. -/
theorem Lin.ntrans {α : Type} {lt : α → α → Bool} {p : α → Prop} (h : Lin lt p) {x y z : α} (hx : p x) (hy : p y) (hz : p z) (h1 : lt x y = false) (h2 : lt y z = false) : lt x z = false := by
  cases e : lt x z with
  | false => rfl
  | true =>
    rcases Classical.em (x = y) with rfl | hne
    · rw [h2] at e; cases e
    · rcases h.total x y hx hy hne with h' | h'
      · rw [h1] at h'; cases h'
      · have := h.trans y x z hy hx hz h' e
        rw [h2] at this; cases this
def AllP {α : Type} [Inhabited α] (p : α → Prop) (d : List α) : Prop := ∀ i, i < d.length → p (el d i)
theorem AllP.of {α : Type} [Inhabited α] {p : α → Prop} {d : List α} (h : ∀ x ∈ d, p x) : AllP p d := fun i hi => h _ (by rw [el_lt hi]; exact List.getElem_mem _)
theorem AllP.perm {α : Type} [Inhabited α] {p : α → Prop} {d d' : List α} (h : AllP p d) (hp : d'.Perm d) : AllP p d' := by
  refine AllP.of fun x hx => ?_
  obtain ⟨i, hi, e⟩ := List.mem_iff_getElem.1 (hp.mem_iff.1 hx)
  rw [← e, ← el_lt hi]; exact h i hi
/-- Ascending on a ≤ i < b. -/
def Asc {α : Type} [Inhabited α] (lt : α → α → Bool) (a b : Nat) (d : List α) : Prop := ∀ i j, a ≤ i → i < j → j < b → lt (el d j) (el d i) = false
end Go.Vs

namespace Go.Vs

section
variable {α : Type} {cmp : α → α → Option Int} {lt : α → α → Bool} {p : α → Prop}
end

section
variable {α : Type} [Inhabited α] {cmp : α → α → Option Int} {lt : α → α → Bool} {p : α → Prop}
end
end Go.Vs

namespace Go.Vs

section
variable {α : Type} [Inhabited α] {cmp : α → α → Option Int} {lt : α → α → Bool} {p : α → Prop}
end
end Go.Vs

namespace Go.Vs

section
variable {α : Type} [Inhabited α] {cmp : α → α → Option Int} {lt : α → α → Bool} {p : α → Prop}

/-- What the partition gives. -/
structure Parted (lt : α → α → Bool) (a b : Nat) (d : List α) (m : Nat) (d' : List α) : Prop where
  ge : a ≤ m
  le : m < b
  perm : PermR a b d d'
  low : ∀ i, a ≤ i → i < m → lt (el d' i) (el d' m) = true
  high : ∀ i, m < i → i < b → lt (el d' i) (el d' m) = false
end
end Go.Vs

namespace Go.Vs

section
variable {α : Type} [Inhabited α] {cmp : α → α → Option Int} {lt : α → α → Bool} {p : α → Prop}

/-- Ascending, but for pairs that are both in the part. -/
def NIn (lt : α → α → Bool) (a0 b0 a b : Nat) (d : List α) : Prop := ∀ i j, a0 ≤ i → i < j → j < b0 → ¬ (a ≤ i ∧ j < b) → lt (el d j) (el d i) = false
theorem NIn.perm {a0 b0 a b : Nat} {d d' : List α} (h : NIn lt a0 b0 a b d) (hP : PermR a b d d') (ha : a0 ≤ a) (hab : a ≤ b) (hb : b ≤ b0) (hb0 : b0 ≤ d.length) : NIn lt a0 b0 a b d' := by
  intro i j h1 h2 h3 h4
  have cl : ∀ k, ∃ k', el d' k = el d k' ∧ ((a ≤ k ∧ k < b) → a ≤ k' ∧ k' < b) ∧ (¬ (a ≤ k ∧ k < b) → k' = k) := by
    intro k
    by_cases hk : a ≤ k ∧ k < b
    · obtain ⟨k', g1, g2, g3⟩ := hP.mem hab (by omega) hk.1 hk.2
      exact ⟨k', g3, fun _ => ⟨g1, g2⟩, fun h => absurd hk h⟩
    · exact ⟨k, hP.out k (by omega), fun h => absurd h hk, fun _ => rfl⟩
  obtain ⟨i', e1, q1, q2⟩ := cl i
  obtain ⟨j', e2, q3, q4⟩ := cl j
  rw [e1, e2]
  by_cases hi : a ≤ i ∧ i < b
  · have := q1 hi
    by_cases hj : a ≤ j ∧ j < b
    · exact absurd ⟨hi.1, hj.2⟩ h4
    · have := q4 hj; subst this; exact h i' j' (by omega) (by omega) h3 (by omega)
  · have := q2 hi; subst this
    by_cases hj : a ≤ j ∧ j < b
    · have := q3 hj; exact h i' j' h1 (by omega) (by omega) (by omega)
    · have := q4 hj; subst this; exact h i' j' h1 h2 h3 (by omega)
theorem NIn.done {a0 b0 a b : Nat} {d : List α} (h : NIn lt a0 b0 a b d) (hA : Asc lt a b d) : Asc lt a0 b0 d := by
  intro i j h1 h2 h3
  by_cases hc : a ≤ i ∧ j < b
  · exact hA i j hc.1 h2 hc.2
  · exact h i j h1 h2 h3 hc
end
end Go.Vs

namespace Go.Vs

abbrev Hit := Int × Int
/-- Which one of two hits is nearer. -/
def ltH (x y : Hit) : Bool := decide (x.2 < y.2 ∨ x.2 = y.2 ∧ x.1 < y.1)
theorem ltH_iff {x y : Hit} : ltH x y = true ↔ x.2 < y.2 ∨ x.2 = y.2 ∧ x.1 < y.1 := by simp [ltH]
theorem ltH_false {x y : Hit} : ltH x y = false ↔ ¬ (x.2 < y.2 ∨ x.2 = y.2 ∧ x.1 < y.1) := by simp [ltH]
theorem linH : Lin ltH (fun _ => True) where
  irrefl x _ := by rw [ltH_false]; omega
  trans x y z _ _ _ h1 h2 := by rw [ltH_iff] at *; omega
  total x y _ _ h := by
    rw [ltH_iff, ltH_iff]
    by_cases e : x.2 = y.2
    · have : x.1 ≠ y.1 := fun e2 => h (Prod.ext e2 e)
      omega
    · omega
end Go.Vs

namespace Go.Vs

/-- Into its place. -/
def insH (x : Hit) : List Hit → List Hit
  | [] => [x]
  | y :: r => if ltH x y then x :: y :: r else y :: insH x r
def AscH (l : List Hit) : Prop := l.Pairwise fun x y => ltH y x = false
theorem insH_perm (x : Hit) (l : List Hit) : (insH x l).Perm (x :: l) := by
  induction l with
  | nil => exact List.Perm.refl _
  | cons y r ih =>
    unfold insH
    split
    · exact List.Perm.refl _
    · exact (List.Perm.cons y ih).trans (List.Perm.swap x y r)
theorem insH_asc {x : Hit} {l : List Hit} (h : AscH l) : AscH (insH x l) := by
  induction l with
  | nil => exact List.pairwise_singleton _ _
  | cons y r ih =>
    obtain ⟨h1, h2⟩ := List.pairwise_cons.1 h
    unfold insH
    split
    · rename_i hlt
      refine List.pairwise_cons.2 ⟨fun z hz => ?_, h⟩
      rcases List.mem_cons.1 hz with rfl | hz
      · exact linH.asymm trivial trivial hlt
      · exact linH.ntrans trivial trivial trivial (h1 z hz) (linH.asymm trivial trivial hlt)
    · rename_i hlt
      refine List.pairwise_cons.2 ⟨fun z hz => ?_, ih h2⟩
      rcases List.mem_cons.1 ((insH_perm x r).mem_iff.1 hz) with rfl | hz
      · simpa using hlt
      · exact h1 z hz
theorem ltH_antisymm {x y : Hit} (h1 : ltH x y = false) (h2 : ltH y x = false) : x = y := by
  rcases Classical.em (x = y) with h | h
  · exact h
  · rcases linH.total x y trivial trivial h with h' | h'
    · rw [h1] at h'; cases h'
    · rw [h2] at h'; cases h'
theorem asc_uniq {l m : List Hit} (hl : AscH l) (hm : AscH m) (h : l.Perm m) : l = m :=
  List.Perm.eq_of_pairwise (le := fun x y => ltH y x = false) (fun _ _ _ _ h1 h2 => ltH_antisymm h2 h1) hl hm h
/-- All in order. -/
def isort (l : List Hit) : List Hit := l.foldl (fun S x => insH x S) []
theorem isort_spec (l : List Hit) : AscH (isort l) ∧ (isort l).Perm l := by
  have key : ∀ (l S : List Hit), AscH S → AscH (l.foldl (fun S x => insH x S) S) ∧ (l.foldl (fun S x => insH x S) S).Perm (S ++ l) := by
    intro l
    induction l with
    | nil => intro S h; exact ⟨h, by simp⟩
    | cons x r ih =>
      intro S h
      obtain ⟨h1, h2⟩ := ih (insH x S) (insH_asc h)
      refine ⟨h1, h2.trans ?_⟩
      have := List.Perm.append_right r (insH_perm x S)
      exact this.trans (List.perm_middle.symm)
  exact key l [] List.Pairwise.nil
theorem isort_uniq {l m : List Hit} (hm : AscH m) (h : m.Perm l) : isort l = m := asc_uniq (isort_spec l).1 hm ((isort_spec l).2.trans h.symm)
def topH (k : Nat) (l : List Hit) : List Hit := (isort l).take k
/-! ## What the heap keeps -/
/-! ## The searches -/
theorem inRange_ok (n a b : Int) : M.spec_inRange n a b = some (decide (a ≤ n ∧ n ≤ b)) := by
  unfold M.spec_inRange
  by_cases h : a ≤ n <;> simp [h]
end Go.Vs

namespace Go.Vs

end Go.Vs

namespace Go.Vs

end Go.Vs

namespace Go.Vs

end Go.Vs

namespace Go.Vs

end Go.Vs

namespace Go.Vs

end Go.Vs

namespace Go.Vs

end Go.Vs

namespace Go.Vs

/-- Items that may be put into a tree. -/
structure OkL (l : List Item) : Prop where
  len : l.length ≤ 16
  vec : ∀ x ∈ l, isVec x.2.1 = true
  keys : (l.map (·.1)).Nodup
theorem OkL.inj {l : List Item} (h : OkL l) : ∀ x y, x ∈ l → y ∈ l → x.1 = y.1 → x = y := fun x y hx hy e => by
  obtain ⟨i, hi, rfl⟩ := List.mem_iff_getElem.1 hx
  obtain ⟨j, hj, rfl⟩ := List.mem_iff_getElem.1 hy
  have hpw := List.pairwise_iff_getElem.1 (List.pairwise_map.1 h.keys)
  rcases Nat.lt_trichotomy i j with h | h | h
  · exact absurd e (hpw i j hi hj h)
  · subst h; rfl
  · exact absurd e.symm (hpw j i hj hi h)
theorem OkL.sub {l m : List Item} (h : OkL l) (hs : List.Sublist m l) : OkL m :=
  ⟨Nat.le_trans hs.length_le h.len, fun x hx => h.vec x (hs.subset hx), List.Nodup.sublist (hs.map _) h.keys⟩
theorem OkL.perm {l m : List Item} (h : OkL l) (hp : m.Perm l) : OkL m :=
  ⟨by rw [hp.length_eq]; exact h.len, fun x hx => h.vec x (hp.mem_iff.1 hx), (hp.map (·.1)).nodup_iff.2 h.keys⟩

end Go.Vs

namespace Go.Vs

abbrev Nod := Int × Int × Int × Int
def nodesT : Tr Item → Nat → List Nod
  | .nil, _ => []
  | .node x n l r, a => (x.1, n, (bif l.isNil then -1 else ((a + 1 : Nat) : Int)), (bif r.isNil then -1 else ((a + 1 + (nodesT l (a + 1)).length : Nat) : Int))) :: (nodesT l (a + 1) ++ nodesT r (a + 1 + (nodesT l (a + 1)).length))
def Tr.size : Tr Item → Nat
  | .nil => 0
  | .node _ _ l r => l.size + r.size + 1
theorem nodesT_len : ∀ (t : Tr Item) (a : Nat), (nodesT t a).length = t.size
  | .nil, _ => rfl
  | .node x n l r, a => by simp only [nodesT, List.length_cons, List.length_append, nodesT_len l, nodesT_len r, Tr.size]
end Go.Vs

namespace Go.Vs

end Go.Vs

namespace Go.Vs

end Go.Vs

namespace Go.Vs

end Go.Vs

namespace Go.Vs

def itemsT : Tr Item → List Item
  | .nil => []
  | .node x _ l r => x :: (itemsT l ++ itemsT r)
/-- A tree's nodes stand in a list, from a place on. -/
def Sub (L : List Nod) (t : Tr Item) (a : Nat) : Prop := ∃ pre post, L = pre ++ nodesT t a ++ post ∧ pre.length = a
theorem Sub.left {L : List Nod} {x : Item} {q : Int} {l r : Tr Item} {a : Nat} (h : Sub L (.node x q l r) a) : Sub L l (a + 1) := by
  obtain ⟨pre, post, rfl, rfl⟩ := h
  exact ⟨pre ++ (nodesT (.node x q l r) pre.length).take 1, nodesT r (pre.length + 1 + (nodesT l (pre.length + 1)).length) ++ post, by simp [nodesT], by simp [nodesT]⟩
theorem Sub.right {L : List Nod} {x : Item} {q : Int} {l r : Tr Item} {a : Nat} (h : Sub L (.node x q l r) a) : Sub L r (a + 1 + l.size) := by
  obtain ⟨pre, post, rfl, rfl⟩ := h
  exact ⟨pre ++ (nodesT (.node x q l r) pre.length).take 1 ++ nodesT l (pre.length + 1), post, by simp [nodesT, nodesT_len], by simp [nodesT, nodesT_len]; omega⟩
theorem Sub.get {L : List Nod} {x : Item} {q : Int} {l r : Tr Item} {a : Nat} (h : Sub L (.node x q l r) a) : ∃ hl : a < L.length, L[a] = (x.1, q, (bif l.isNil then -1 else ((a + 1 : Nat) : Int)), (bif r.isNil then -1 else ((a + 1 + l.size : Nat) : Int))) := by
  obtain ⟨pre, post, rfl, rfl⟩ := h
  exact ⟨by simp [nodesT], by simp [nodesT, nodesT_len]⟩
theorem Sub.gidx {L : List Nod} {x : Item} {q : Int} {l r : Tr Item} {a : Nat} (h : Sub L (.node x q l r) a) : Go.Vs.gidx L (a : Int) = some (x.1, q, (bif l.isNil then -1 else ((a + 1 : Nat) : Int)), (bif r.isNil then -1 else ((a + 1 + l.size : Nat) : Int))) := by
  obtain ⟨hl, e⟩ := h.get
  rw [gidx_nat hl, e]
theorem sub_self (t : Tr Item) : Sub (nodesT t 0) t 0 := ⟨[], [], by simp, rfl⟩

end Go.Vs

namespace Go.Vs

def hitV (kd : Int) (v : List Int) (x : Item) : Hit := (x.1, dist kd x.2.1 v)
def hitsV (kd : Int) (v : List Int) (l : List Item) : List Hit := l.map (hitV kd v)
/-- How far a search looks. -/
def reachH (k : Nat) (V : List Hit) : Int := if (topH k V).length < k then 1000000 else ((topH k V).getD (k - 1) (0, 0)).2
/-! ## Lists with the same nearest ones -/
def SameT (k : Nat) (U V : List Hit) : Prop := topH k U = topH k V
theorem SameT.refl (k : Nat) (U : List Hit) : SameT k U U := rfl
theorem SameT.trans {k : Nat} {U V W : List Hit} (h : SameT k U V) (g : SameT k V W) : SameT k U W := Eq.trans h g
theorem SameT.symm {k : Nat} {U V : List Hit} (h : SameT k U V) : SameT k V U := Eq.symm h
theorem SameT.perm {k : Nat} {U V : List Hit} (h : U.Perm V) : SameT k U V := by
  show topH k U = topH k V
  unfold topH
  rw [isort_uniq (isort_spec V).1 ((isort_spec V).2.trans h.symm)]
theorem SameT.reach {k : Nat} {U V : List Hit} (h : SameT k U V) : reachH k U = reachH k V := by
  unfold reachH
  rw [h]
/-! ## Trees find the nearest -/
/-! ## At how many nodes they look -/
noncomputable def vis (kd : Int) (v : List Int) (k : Nat) : Tr Item → List Hit → Nat
  | .nil, _ => 0
  | .node x q l r, P =>
    if dist kd x.2.1 v ≤ q then
      vis kd v k l (P ++ [hitV kd v x]) + 1 + (if q - dist kd x.2.1 v ≤ reachH k (P ++ [hitV kd v x] ++ hitsV kd v (itemsT l)) then vis kd v k r (P ++ [hitV kd v x] ++ hitsV kd v (itemsT l)) else 0)
    else
      vis kd v k r (P ++ [hitV kd v x]) + 1 + (if dist kd x.2.1 v - q ≤ reachH k (P ++ [hitV kd v x] ++ hitsV kd v (itemsT r)) then vis kd v k l (P ++ [hitV kd v x] ++ hitsV kd v (itemsT r)) else 0)
end Go.Vs

namespace Go.Vs

/-! ## The program's search -/
/-! ## What is answered -/
end Go.Vs

namespace Go.Vs

/-! ## Exact laws -/
end Go.Vs

namespace Go.Vs

end Go.Vs

namespace Go.Vs

/-! ## The first of the least -/
def SmallC (cs : List (List Int)) : Prop := cs.length < 2000000 ∧ ∀ c ∈ cs, c.length < 2000000
theorem implVecs_ok {l : List (List Int)} {m : Nat} (s : SmallC l) : M.impl_validVectors l (m : Int) = some (decide (1 ≤ l.length) && decide (l.length ≤ m) && l.all isVec) := by
  unfold M.impl_validVectors
  have hl := s.1
  by_cases h1 : 1 ≤ l.length
  · have e1 : decide ((l.length : Int) < 1) = false := decide_eq_false (by omega)
    by_cases h2 : l.length ≤ m
    · have e2 : decide ((m : Int) < (l.length : Int)) = false := decide_eq_false (by omega)
      simp only [e1, e2, cond_false, Option.bind_some, h1, h2, decide_true, Bool.true_and]
      rw [loop_all (xs := l) (P := isVec) (r := false)]
      · by_cases h : l.all isVec = true
        · rw [if_pos h, h]; rfl
        · rw [if_neg h]; simp only [Bool.not_eq_true] at h; rw [h]; rfl
      · intro i hi
        have e5 : decide ((i : Int) < (l.length : Int)) = true := decide_eq_true (by omega)
        have e6 : w64 ((i : Int) + 1) = (i : Int) + 1 := w64_id (by omega) (by omega)
        simp only [e5, cond_true, gidx_nat hi, Option.bind_some, impl_valid l[i] (s.2 _ (List.getElem_mem hi)), e6]
        cases isVec l[i] <;> simp
      · simp
    · have e2 : decide ((m : Int) < (l.length : Int)) = true := decide_eq_true (by omega)
      simp only [e1, e2, cond_false, cond_true, Option.bind_some, h2, decide_false, Bool.and_false, Bool.false_and]
  · have e1 : decide ((l.length : Int) < 1) = true := decide_eq_true (by omega)
    simp only [e1, cond_true, Option.bind_some, h1, decide_false, Bool.false_and]
/-! ## Drawn centres -/
/-! ## Laws -/
theorem SmallC.sub {cs ds : List (List Int)} (h : SmallC cs) (hs : ds.Sublist cs) : SmallC ds := ⟨by have := hs.length_le; have := h.1; omega, fun c hc => h.2 c (hs.subset hc)⟩
/-! ## Items and their centres -/
/-! ## Spreads -/
end Go.Vs

namespace Go.Vs

section
variable {cmp : Int → Int → Option Int} {D : Nat → Int} {n : Nat}
end

end Go.Vs

namespace Go.Vs

abbrev OkCs (cs : List (List Int)) : Prop := cs.length ≤ 9223372036854775807 ∧ ∀ x ∈ cs, (x.length ≤ 9223372036854775807 ∧ ∀ y ∈ x, True)
abbrev OkIs (l : List Item) : Prop := l.length ≤ 9223372036854775807 ∧ ∀ x ∈ l, (True ∧ ((x.2.1.length ≤ 9223372036854775807 ∧ ∀ y ∈ x.2.1, True) ∧ True))
theorem smallC_of {cs : List (List Int)} (h1 : cs.length ≤ 1048576) (h2 : ∀ x ∈ cs, x.length ≤ 1048576) : SmallC cs := ⟨by omega, fun c hc => by have := h2 c hc; omega⟩
/-- The sizes of centres. -/
theorem szC_ok {cs : List (List Int)} {left : Int} (ha : OkCs cs) (h0 : 0 ≤ left) (h1 : left ≤ 1048576) : ∃ s, M.laws_szIntSS cs left = some s ∧ (s < 0 ∨ (0 ≤ s ∧ s ≤ left ∧ cs.length ≤ 1048576 ∧ ∀ x ∈ cs, x.length ≤ 1048576)) := by
  unfold M.laws_szIntSS
  rw [w64_id (by have := ha.1; omega) (by omega)]
  by_cases h : left - (cs.length : Int) < 0
  · exact ⟨-1, by simp [h], .inl (by omega)⟩
  simp only [h, decide_false, cond_false]
  have hl : cs.length ≤ 1048576 := by omega
  have key : ∀ m k : Nat, ∀ l : Int, k + m = cs.length → 0 ≤ l → l ≤ left → ∃ r : Int ⊕ Int, loopM (fun (s3 : (Int) × (Int)) => (bif decide (s3.2 < (cs.length : Int)) then
  (gidx cs s3.2).bind fun x8 =>
  (M.laws_szIntS x8 s3.1).bind fun r19 =>
  (bif decide (r19 < 0) then
  some (.inr (.inr (-1)))
 else
  some (.inl (r19, w64 (s3.2 + 1))))
 else
  some (.inr (.inl s3.1)))) (l, (k : Int)) = some r ∧ (r = .inr (-1) ∨ ∃ l', r = .inl l' ∧ 0 ≤ l' ∧ l' ≤ left ∧ ∀ x ∈ cs.drop k, x.length ≤ 1048576) := by
    intro m
    induction m with
    | zero =>
      intro k l hk hl0 hl1
      have : k = cs.length := by omega
      subst this
      refine ⟨.inl l, ?_, .inr ⟨l, rfl, hl0, hl1, by simp⟩⟩
      rw [loopM_eq]; simp [selim]
    | succ m ih =>
      intro k l hk hl0 hl1
      have hlt : k < cs.length := by omega
      have e1 : decide ((k : Int) < (cs.length : Int)) = true := by simpa using hlt
      have e2 : w64 ((k : Int) + 1) = ((k + 1 : Nat) : Int) := w64_id (by omega) (by omega)
      obtain ⟨s, es, hs⟩ := szIntS_ok (a := cs[k]) (left := l) (ha.2 _ (List.getElem_mem hlt)).1 hl0 (by omega)
      rw [loopM_eq]
      simp only [e1, cond_true, gidx_nat hlt, Option.bind_some, es, e2]
      rcases hs with hs | ⟨hs0, hs1, hs2⟩
      · exact ⟨.inr (-1), by simp [hs, selim], .inl rfl⟩
      · obtain ⟨r, hr, hr'⟩ := ih (k + 1) s (by omega) hs0 (by omega)
        refine ⟨r, ?_, ?_⟩
        · have : ¬ s < 0 := by omega
          simp only [this, decide_false, cond_false, selim, Option.bind_some]
          exact hr
        · rcases hr' with hr' | ⟨l', e, h0', h1', hall⟩
          · exact .inl hr'
          · refine .inr ⟨l', e, h0', h1', ?_⟩
            rw [List.drop_eq_getElem_cons hlt]
            intro x hx'
            rcases List.mem_cons.1 hx' with h | h
            · subst h; exact hs2
            · exact hall x h
  obtain ⟨r, hr, hr'⟩ := key cs.length 0 (left - cs.length) (by omega) (by omega) (by omega)
  simp only [Int.cast_ofNat_Int] at hr
  rw [hr]
  rcases hr' with rfl | ⟨l', rfl, h0', h1', hall⟩
  · exact ⟨-1, rfl, .inl (by omega)⟩
  · exact ⟨l', rfl, .inr ⟨h0', h1', hl, by simpa using hall⟩⟩
end Go.Vs

namespace Go.Vs

/-! ## Settling -/
end Go.Vs

namespace Go.Vs

/-! ## What searches cost -/
/-! ## Exact laws -/
end Go.Vs

namespace Go.Vs

/-! ## All items are in a list -/
end Go.Vs

namespace Go.Vs

end Go.Vs

namespace Go.Vs

abbrev Book := List (List Int) × List (List Int)
def okPl (l : List (List Int)) : Bool := l.all isVec && (decide (1 ≤ l.length) && decide (l.length ≤ 6))
theorem okPl_iff {l : List (List Int)} : okPl l = true ↔ (∀ v ∈ l, isVec v = true) ∧ 1 ≤ l.length ∧ l.length ≤ 6 := by unfold okPl; simp
theorem specPlanes_ok {l : List (List Int)} (s : SmallC l) : M.spec_validPlanes l = some (okPl l) := by
  unfold M.spec_validPlanes okPl
  have hl := s.1
  rw [loop_all (xs := l) (P := isVec) (r := false)]
  · by_cases h : l.all isVec = true
    · rw [if_pos h, h]
      simp only [Option.bind_some, selim, spec_inR, Bool.true_and]
      congr 1
      rw [Bool.eq_iff_iff]; simp
      omega
    · rw [if_neg h]; simp only [Bool.not_eq_true] at h; rw [h]; simp [selim]
  · intro i hi
    have e5 : decide ((i : Int) < (l.length : Int)) = true := decide_eq_true (by omega)
    have e6 : w64 ((i : Int) + 1) = (i : Int) + 1 := w64_id (by omega) (by omega)
    simp only [e5, cond_true, gidx_nat hi, Option.bind_some, spec_isVec l[i] (s.2 _ (List.getElem_mem hi)), e6]
    cases isVec l[i] <;> simp
  · simp
theorem specdot_ok {a b : List Int} (va : isVec a = true) (vb : isVec b = true) : M.spec_dot a b = some (dotv a b) := by
  unfold M.spec_dot
  obtain ⟨x0, x1, x2, x3, rfl, c0, c1, c2, c3⟩ := isVec_cut va
  obtain ⟨y0, y1, y2, y3, rfl, e0, e1, e2, e3⟩ := isVec_cut vb
  rw [dot_loop c0 c1 c2 c3 e0 e1 e2 e3]
  · rfl
  · simp only [l4, d04, gi0, cond_true, Option.bind_some]
  · intro n; simp only [l4, d14, gi1, cond_true, Option.bind_some]
  · intro n; simp only [l4, d24, gi2, cond_true, Option.bind_some]
  · intro n; simp only [l4, d34, gi3, cond_true, Option.bind_some]
  · intro n; simp only [l4, d44, cond_false]
/-- One more bit. -/
def bitS (v : List Int) (n : Int) (p : List Int) : Int := 2 * n + if 0 ≤ dotv p v then 1 else 0
def hashF (l : List (List Int)) (v : List Int) : Int := l.foldl (bitS v) 0
theorem specHash_ok {l : List (List Int)} {v : List Int} (h : okPl l = true) (hv : isVec v = true) : M.spec_hashOf l v = some (hashF l v) ∧ 0 ≤ hashF l v ∧ hashF l v < 2 ^ l.length := by
  obtain ⟨h1, h2, h3⟩ := okPl_iff.1 h
  unfold M.spec_hashOf hashF
  have key := loop_fold (xs := l) (S := Int) (T := Int × Int) (R := Int) (st := fun s i => (s, i)) (g := bitS v) (Inv := fun i s => 0 ≤ s ∧ s < 2 ^ i) (fin := id) (s0 := 0)
    (f := fun (s2 : (Int) × (Int)) => (bif decide (s2.2 < (l.length : Int)) then
  (gidx l s2.2).bind fun x5 =>
  (M.spec_dot x5 v).bind fun r15 =>
  (M.spec_toInt (decide (0 ≤ r15))).bind fun r19 =>
  some (.inl (w64 ((w64 (2 * s2.1)) + r19), w64 (s2.2 + 1)))
 else
  some (.inr s2.1))) (by simp) ?_ ?_
  · rw [key.1]; exact ⟨rfl, key.2⟩
  · intro s i hi ⟨hs0, hs1⟩
    have e5 : decide ((i : Int) < (l.length : Int)) = true := decide_eq_true (by omega)
    have hp : (2 : Int) ^ i ≤ 2 ^ 5 := by exact_mod_cast Nat.pow_le_pow_right (by omega) (by omega : i ≤ 5)
    have hp' : (2 : Int) ^ 5 = 32 := rfl
    have hq : (2 : Int) ^ (i + 1) = 2 * 2 ^ i := by rw [Int.pow_succ]; omega
    have b1 : w64 (2 * s) = 2 * s := w64_id (by omega) (by omega)
    have t : M.spec_toInt (decide (0 ≤ dotv l[i] v)) = some (if 0 ≤ dotv l[i] v then 1 else 0) := by
      unfold M.spec_toInt
      by_cases q : 0 ≤ dotv l[i] v <;> simp [q]
    have hb : 0 ≤ (if 0 ≤ dotv l[i] v then (1 : Int) else 0) ∧ (if 0 ≤ dotv l[i] v then (1 : Int) else 0) ≤ 1 := by split <;> omega
    have b2 : w64 (2 * s + (if 0 ≤ dotv l[i] v then 1 else 0)) = 2 * s + (if 0 ≤ dotv l[i] v then 1 else 0) := w64_id (by omega) (by omega)
    refine ⟨?_, ?_, ?_⟩
    · simp only [e5, cond_true, gidx_nat hi, Option.bind_some, specdot_ok (h1 _ (List.getElem_mem hi)) hv, t, b1, b2, w64_succ (i := i) (by omega)]
      rfl
    · unfold bitS; omega
    · unfold bitS; rw [hq]; omega
  · intro s _
    have e5 : decide ((l.length : Int) < (l.length : Int)) = false := decide_eq_false (by omega)
    simp only [e5, cond_false]; rfl
end Go.Vs

namespace Go.Vs

/-- The sum of squares between two halves. -/
def hd2 (u v : List Int) : Int := gap (u.getD 0 0) (v.getD 0 0) * gap (u.getD 0 0) (v.getD 0 0) + gap (u.getD 1 0) (v.getD 1 0) * gap (u.getD 1 0) (v.getD 1 0)
def hD (l : List (List Int)) (v : List Int) (j : Nat) : Int := hd2 (l.getD j []) v
end Go.Vs

namespace Go.Vs

def pop (n : Nat) : Nat := if h : n = 0 then 0 else n % 2 + pop (n / 2)
termination_by n
decreasing_by omega
theorem pop_zero : pop 0 = 0 := by unfold pop; simp
theorem pop_pos {n : Nat} (h : n ≠ 0) : pop n = n % 2 + pop (n / 2) := by rw [pop]; simp [h]
theorem pop_le : ∀ n, pop n ≤ n := by
  intro n
  induction n using Nat.strongRecOn with
  | _ n ih =>
    by_cases h : n = 0
    · subst h; rw [pop_zero]; omega
    · rw [pop_pos h]
      have := ih (n / 2) (by omega)
      omega
theorem gxor_nat {a b : Nat} (ha : a < 2 ^ 62) (hb : b < 2 ^ 62) : gxor (a : Int) (b : Int) = ((a ^^^ b : Nat) : Int) := by
  have hx : a ^^^ b < 2 ^ 62 := Nat.xor_lt_two_pow ha hb
  have h1 : (BitVec.ofInt 64 (a : Int) ^^^ BitVec.ofInt 64 (b : Int)).toNat = a ^^^ b := by
    rw [BitVec.ofInt_natCast, BitVec.ofInt_natCast, BitVec.toNat_xor, BitVec.toNat_ofNat, BitVec.toNat_ofNat, Nat.mod_eq_of_lt (by omega), Nat.mod_eq_of_lt (by omega)]
  unfold gxor
  rw [h1]
  exact w64_id (by omega) (by omega)
/-- In how many bits two numbers differ. -/
def bitsD (a b : Nat) : Nat := pop (a ^^^ b)
theorem specBits_ok {a b : Nat} (ha : a < 2 ^ 62) (hb : b < 2 ^ 62) : M.spec_bitsApart (a : Int) (b : Int) = some (bitsD a b : Int) := by
  unfold M.spec_bitsApart
  rw [gxor_nat ha hb]
  have hx : a ^^^ b < 2 ^ 62 := Nat.xor_lt_two_pow ha hb
  unfold bitsD
  generalize a ^^^ b = x at *
  rw [loop_to (r := (pop x : Int)) (J := fun s => ∃ n y : Nat, s = ((n : Int), (y : Int)) ∧ n + pop y = pop x ∧ y < 2 ^ 62) (μ := fun s => s.2.toNat)]
  · rfl
  · rintro _ ⟨n, y, rfl, h1, h2⟩
    by_cases hy : y = 0
    · subst hy
      right
      rw [pop_zero] at h1
      simp; omega
    · left
      have hp := pop_pos hy
      have hl := pop_le x
      have e1 : decide ((0 : Int) < (y : Int)) = true := decide_eq_true (by omega)
      have e2 : ((y : Int).tmod 2) = ((y % 2 : Nat) : Int) := rfl
      have e3 : ((y : Int).tdiv 2) = ((y / 2 : Nat) : Int) := rfl
      have hn : n + y % 2 ≤ pop y + n := by omega
      have hbig : pop y ≤ y := pop_le y
      have e4 : w64 ((n : Int) + ((y % 2 : Nat) : Int)) = ((n + y % 2 : Nat) : Int) := by
        have hxx : pop x < 2 ^ 62 := by omega
        rw [w64_id (by omega) (by omega)]; push_cast; rfl
      have e5 : w64 ((y / 2 : Nat) : Int) = ((y / 2 : Nat) : Int) := w64_id (by omega) (by omega)
      refine ⟨(((n + y % 2 : Nat) : Int), ((y / 2 : Nat) : Int)), ?_, ⟨n + y % 2, y / 2, rfl, by omega, by omega⟩, by show ((y / 2 : Nat) : Int).toNat < ((y : Nat) : Int).toNat; omega⟩
      simp only [e1, cond_true, e2, e3, e4, e5]
  · exact ⟨0, x, rfl, by omega, hx⟩
end Go.Vs

namespace Go.Vs

/-- The items of a bucket. -/
def inBucket (ps : List (List Int)) (v : List Int) (bits : Int) (x : Item) : Bool := decide ((bitsD (hashF ps x.2.1).toNat (hashF ps v).toNat : Int) ≤ bits)
def okBu (ps : List (List Int)) (l : List Item) (v : List Int) (bits : Int) : Bool := okPl ps && okStore l && isVec v && decide (0 ≤ bits ∧ bits ≤ 6)
theorem okBu_iff {ps : List (List Int)} {l : List Item} {v : List Int} {bits : Int} : okBu ps l v bits = true ↔ okPl ps = true ∧ okStore l = true ∧ isVec v = true ∧ 0 ≤ bits ∧ bits ≤ 6 := by simp [okBu, and_assoc]
def bucketL (ps : List (List Int)) (l : List Item) (v : List Int) (bits : Int) : List Int := if okBu ps l v bits = true then (l.filter (inBucket ps v bits)).map (·.1) else []
theorem specBucket_ok {ps : List (List Int)} {l : List Item} {v : List Int} {bits : Int} (sp : SmallC ps) (sl : SmallS l) (hv : v.length < 2000000) : M.spec_BucketOf ps l v bits = some (bucketL ps l v bits) := by
  unfold M.spec_BucketOf bucketL
  simp only [specPlanes_ok sp, sl.specv, spec_isVec v hv, inRange_ok, Option.bind_some]
  cases hp : okPl ps with
  | false => simp [okBu, hp]
  | true =>
    cases ho : okStore l with
    | false => simp [okBu, ho]
    | true =>
      cases hvv : isVec v with
      | false => simp [okBu, hvv]
      | true =>
        by_cases hb : 0 ≤ bits ∧ bits ≤ 6
        · have hB : okBu ps l v bits = true := okBu_iff.2 ⟨hp, ho, hvv, hb⟩
          obtain ⟨hlen, hit, _⟩ := okStore_iff.1 ho
          have d : decide (0 ≤ bits ∧ bits ≤ 6) = true := decide_eq_true hb
          simp only [d, Bool.not_true, cond_false, Option.bind_some, hB, if_true]
          refine fold_bind (xs := l) (fun (s : List Int) i => (s, i)) (fun s x => if inBucket ps v bits x = true then s ++ [x.1] else s) (fun i s => s = ((l.take i).filter (inBucket ps v bits)).map (·.1)) (fun s => s) (s0 := []) (by simp) ?_ ?_ ?_
          · rintro s i hi rfl
            have e1 : decide ((i : Int) < (l.length : Int)) = true := decide_eq_true (by omega)
            have hx := isItem_vec (hit _ (List.getElem_mem hi))
            obtain ⟨a1, a2, a3⟩ := specHash_ok hp hx
            obtain ⟨b1, b2, b3⟩ := specHash_ok hp hvv
            have hpow : (2 : Int) ^ ps.length ≤ 2 ^ 6 := by exact_mod_cast Nat.pow_le_pow_right (by omega) (okPl_iff.1 hp).2.2
            have h64 : (2 : Int) ^ 6 = 64 := rfl
            have c1 : ((hashF ps l[i].2.1).toNat : Int) = hashF ps l[i].2.1 := Int.toNat_of_nonneg a2
            have c2 : ((hashF ps v).toNat : Int) = hashF ps v := Int.toNat_of_nonneg b2
            have hbit := specBits_ok (a := (hashF ps l[i].2.1).toNat) (b := (hashF ps v).toNat) (by omega) (by omega)
            rw [c1, c2] at hbit
            simp only [e1, cond_true, gidx_nat hi, Option.bind_some, a1, b1, hbit, w64_succ (i := i) (by omega)]
            have hl : (((l.take i).filter (inBucket ps v bits)).map (·.1)).length ≤ i := by
              rw [List.length_map]
              exact Nat.le_trans (List.length_filter_le _ _) (by simp; omega)
            have hdef : decide ((bitsD (hashF ps l[i].2.1).toNat (hashF ps v).toNat : Int) ≤ bits) = inBucket ps v bits l[i] := rfl
            rw [hdef, List.take_succ_eq_append_getElem hi, List.filter_append, List.map_append]
            cases hin : inBucket ps v bits l[i] with
            | true =>
              rw [gapp_ok (by simp only [List.length_singleton]; omega)]
              simp [hin]
            | false => simp [hin]
          · intro s _; simp
          · intro hs
            rw [hs, List.take_length]
        · simp [okBu, hb]
end Go.Vs

namespace Go.Vs

end Go.Vs

namespace Go.Vs

end Go.Vs

namespace Go.Vs

/-! ## Planes -/
end Go.Vs

namespace Go.Vs

/-! ## Tables -/
/-! ## Vectors of codes -/
/-! ## Distances of codes -/
end Go.Vs

namespace Go.Vs

end Go.Vs

namespace Go.Vs

theorem implPlanes_ok {l : List (List Int)} (s : SmallC l) : M.impl_ValidPlanes l = some (okPl l) := by
  unfold M.impl_ValidPlanes okPl
  have := implVecs_ok (m := 6) s
  rw [show ((6 : Nat) : Int) = 6 from rfl] at this
  simp only [this, Option.bind_some]
  congr 1
  rw [Bool.and_comm]
theorem shl_or : ∀ s : Fin 64, gshl .i64 (s.1 : Int) 1 = 2 * (s.1 : Int) ∧ gor (gshl .i64 (s.1 : Int) 1) 1 = 2 * (s.1 : Int) + 1 := by decide +kernel
def hashV (ps : List (List Int)) (v : List Int) : Int := if okPl ps = true ∧ isVec v = true then hashF ps v else -1
theorem hashV_of {ps : List (List Int)} {v : List Int} (h : okPl ps = true) (hv : isVec v = true) : hashV ps v = hashF ps v := by unfold hashV; rw [if_pos ⟨h, hv⟩]
theorem hashF_range {ps : List (List Int)} {v : List Int} (h : okPl ps = true) (hv : isVec v = true) : 0 ≤ hashF ps v ∧ hashF ps v < 64 := by
  obtain ⟨_, h1, h2⟩ := specHash_ok h hv
  have hpow : (2 : Int) ^ ps.length ≤ 2 ^ 6 := by exact_mod_cast Nat.pow_le_pow_right (by omega) (okPl_iff.1 h).2.2
  have h64 : (2 : Int) ^ 6 = 64 := rfl
  omega
theorem implHash_ok {ps : List (List Int)} {v : List Int} (s : SmallC ps) (hv : v.length < 2000000) : M.impl_HashOf ps v = some (hashV ps v) := by
  unfold M.impl_HashOf hashV
  simp only [implPlanes_ok s, impl_valid v hv, Option.bind_some]
  cases hp : okPl ps with
  | false => simp
  | true =>
    cases hvv : isVec v with
    | false => simp
    | true =>
      obtain ⟨h1, h2, h3⟩ := okPl_iff.1 hp
      simp only [Bool.not_true, cond_false, Option.bind_some, and_self, if_true]
      unfold hashF
      refine fold_bind (xs := ps) (fun (s : Int) i => (s, i)) (bitS v) (fun i s => 0 ≤ s ∧ s < 2 ^ i) (fun s => s) (s0 := 0) (by simp) ?_ ?_ ?_
      · intro s i hi ⟨hs0, hs1⟩
        have e5 : decide ((i : Int) < (ps.length : Int)) = true := decide_eq_true (by omega)
        have hp2 : (2 : Int) ^ i ≤ 2 ^ 5 := by exact_mod_cast Nat.pow_le_pow_right (by omega) (by omega : i ≤ 5)
        have hp' : (2 : Int) ^ 5 = 32 := rfl
        have hq : (2 : Int) ^ (i + 1) = 2 * 2 ^ i := by rw [Int.pow_succ]; omega
        obtain ⟨n, rfl⟩ := Int.eq_ofNat_of_zero_le hs0
        obtain ⟨q1, q2⟩ := shl_or ⟨n, by omega⟩
        simp only at q1 q2
        have hvi := h1 _ (List.getElem_mem hi)
        have li : ps[i].length < 2000000 := by have := (isVec_iff.1 hvi).1; omega
        simp only [e5, cond_true, gidx_nat hi, Option.bind_some, implDot_ok li hv, dotOf_vec hvi hvv, w64_succ (i := i) (by omega)]
        by_cases h0 : 0 ≤ dotv ps[i] v
        · have eb : bitS v (n : Int) ps[i] = 2 * (n : Int) + 1 := by unfold bitS; rw [if_pos h0]
          simp only [h0, decide_true, cond_true, Option.bind_some, q2, eb]
          exact ⟨trivial, by omega, by omega⟩
        · have eb : bitS v (n : Int) ps[i] = 2 * (n : Int) := by unfold bitS; rw [if_neg h0]; omega
          simp only [h0, decide_false, cond_false, Option.bind_some, q1, eb]
          exact ⟨trivial, by omega, by omega⟩
      · intro s _; simp
      · intro _; rfl
/-! ## Bits -/
theorem pop_step (n : Nat) : pop n = n % 2 + pop (n / 2) := by
  by_cases h : n = 0
  · subst h; rw [pop_zero]
  · exact pop_pos h
theorem pop64 {n : Nat} (h : n < 64) : pop n = n % 2 + n / 2 % 2 + n / 4 % 2 + n / 8 % 2 + n / 16 % 2 + n / 32 % 2 := by
  have e : n / 2 / 2 / 2 / 2 / 2 / 2 = 0 := by omega
  rw [pop_step n, pop_step (n / 2), pop_step (n / 2 / 2), pop_step (n / 2 / 2 / 2), pop_step (n / 2 / 2 / 2 / 2), pop_step (n / 2 / 2 / 2 / 2 / 2), e, pop_zero]
  omega
theorem ones : ∀ x : Fin 64, M.math_bits_OnesCount64 (x.1 : Int) = some ((x.1 % 2 + x.1 / 2 % 2 + x.1 / 4 % 2 + x.1 / 8 % 2 + x.1 / 16 % 2 + x.1 / 32 % 2 : Nat) : Int) := by decide +kernel
def isHash (a : Int) : Bool := decide (0 ≤ a) && decide (a ≤ 63)
theorem isHash_iff {a : Int} : isHash a = true ↔ 0 ≤ a ∧ a ≤ 63 := by simp [isHash]
def bitsV (a b : Int) : Int := if isHash a = true ∧ isHash b = true then (bitsD a.toNat b.toNat : Int) else -1
theorem implIsHash_ok (a : Int) : M.impl_validHash a = some (isHash a) := by
  unfold M.impl_validHash isHash
  by_cases h : 0 ≤ a <;> simp [h]
theorem bitsV_of {a b : Nat} (ha : a < 64) (hb : b < 64) : bitsV (a : Int) (b : Int) = (bitsD a b : Int) := by
  unfold bitsV; rw [if_pos ⟨isHash_iff.2 (by omega), isHash_iff.2 (by omega)⟩]; rfl
theorem implBits_ok (a b : Int) : M.impl_BitsApart a b = some (bitsV a b) := by
  unfold M.impl_BitsApart bitsV
  simp only [implIsHash_ok, Option.bind_some]
  cases ha : isHash a with
  | false => simp
  | true =>
    cases hb : isHash b with
    | false => simp
    | true =>
      obtain ⟨a0, a1⟩ := isHash_iff.1 ha
      obtain ⟨b0, b1⟩ := isHash_iff.1 hb
      obtain ⟨m, rfl⟩ := Int.eq_ofNat_of_zero_le a0
      obtain ⟨n, rfl⟩ := Int.eq_ofNat_of_zero_le b0
      have hx : m ^^^ n < 64 := Nat.xor_lt_two_pow (n := 6) (by omega) (by omega)
      have hw : wk .u64 (gxor (m : Int) (n : Int)) = ((m ^^^ n : Nat) : Int) := by
        rw [gxor_nat (by omega) (by omega)]
        unfold wk IntKind.wrap
        generalize m ^^^ n = x at *
        have : (x : Int) % 18446744073709551616 = (x : Int) := Int.emod_eq_of_lt (by omega) (by omega)
        simpa [IntKind.bits, IntKind.signed] using this
      have ho := ones ⟨m ^^^ n, hx⟩
      simp only at ho
      unfold M.math_bits_OnesCount
      simp only [Bool.not_true, cond_false, Option.bind_some, hw, ho, and_self, if_true, Int.toNat_natCast]
      unfold bitsD
      rw [pop64 hx]
theorem bitsD_comm (a b : Nat) : bitsD a b = bitsD b a := by unfold bitsD; rw [Nat.xor_comm]
end Go.Vs

namespace Go.Vs

/-! ## Opposite vectors -/
/-! ## A plane looks at itself -/
/-! ## Twice a vector -/
end Go.Vs

namespace Go.Vs

/-! ## Buckets -/
theorem okBucket_ok {ps : List (List Int)} {l : List Item} {v : List Int} {bits : Int} (sp : SmallC ps) (sl : SmallS l) (hv : v.length < 2000000) : M.impl_validBucket ps l v bits = some (okBu ps l v bits) := by
  unfold M.impl_validBucket okBu
  simp only [implPlanes_ok sp, sl.impl, impl_valid v hv, Option.bind_some]
  cases okPl ps <;> cases okStore l <;> cases isVec v <;> simp
  by_cases h : 0 ≤ bits <;> simp [h]
theorem hash_nat {ps : List (List Int)} {v : List Int} (h : okPl ps = true) (hv : isVec v = true) : hashF ps v = ((hashF ps v).toNat : Int) ∧ (hashF ps v).toNat < 64 := by
  have := hashF_range h hv
  omega
theorem chosen_ok {ps : List (List Int)} {v : List Int} {bits : Int} {x : Item} (sp : SmallC ps) (hp : okPl ps = true) (hv : isVec v = true) (hx : isVec x.2.1 = true) :
    M.impl_bucketItems_1__p3__p_SSint__p3 (x.1, x.2.1, x.2.2) (hashF ps v) ps bits = some (inBucket ps v bits x) := by
  unfold M.impl_bucketItems_1__p3__p_SSint__p3 inBucket
  have lx : x.2.1.length < 2000000 := by have := (isVec_iff.1 hx).1; omega
  obtain ⟨e1, h1⟩ := hash_nat hp hv
  obtain ⟨e2, h2⟩ := hash_nat hp hx
  simp only [implHash_ok sp lx, hashV_of hp hx, Option.bind_some, implBits_ok]
  have : bitsV (hashF ps v) (hashF ps x.2.1) = (bitsD (hashF ps x.2.1).toNat (hashF ps v).toNat : Int) := by
    rw [e1, e2, bitsV_of h1 h2, bitsD_comm]; rfl
  rw [this]
theorem bucketItems_ok {ps : List (List Int)} {l : List Item} {v : List Int} {bits : Int} (sp : SmallC ps) (h : okBu ps l v bits = true) : M.impl_bucketItems ps l v bits = some (l.filter (inBucket ps v bits)) := by
  obtain ⟨hp, ho, hv, hb⟩ := okBu_iff.1 h
  obtain ⟨hlen, hit, _⟩ := okStore_iff.1 ho
  have lv : v.length < 2000000 := by have := (isVec_iff.1 hv).1; omega
  unfold M.impl_bucketItems M.impl_itemsThat__impl_bucketItems_1
  simp only [implHash_ok sp lv, hashV_of hp hv, Option.bind_some]
  rw [Option.bind_assoc]
  refine fold_bind (xs := l) (fun (s : List Item) i => (s, i)) (fun s x => if inBucket ps v bits x = true then s ++ [x] else s) (fun i s => s = (l.take i).filter (inBucket ps v bits)) (fun s => s) (s0 := []) (by simp) ?_ ?_ ?_
  · rintro s i hi rfl
    have e1 : decide ((i : Int) < (l.length : Int)) = true := decide_eq_true (by omega)
    have hx := isItem_vec (hit _ (List.getElem_mem hi))
    simp only [e1, cond_true, gidx_nat hi, Option.bind_some, chosen_ok sp hp hv hx, w64_succ (i := i) (by omega)]
    have hl : ((l.take i).filter (inBucket ps v bits)).length ≤ i := Nat.le_trans (List.length_filter_le _ _) (by simp; omega)
    rw [List.take_succ_eq_append_getElem hi, List.filter_append]
    cases hin : inBucket ps v bits l[i] with
    | true =>
      rw [if_pos rfl]
      simp only [cond_true]
      rw [gapp_ok (by simp only [List.length_singleton]; omega)]
      simp [hin]
    | false => simp [hin]
  · intro s _; simp
  · intro hs
    rw [hs, List.take_length]; rfl
theorem implBucket_ok {ps : List (List Int)} {l : List Item} {v : List Int} {bits : Int} (sp : SmallC ps) (sl : SmallS l) (hv : v.length < 2000000) : M.impl_BucketOf ps l v bits = some (bucketL ps l v bits) := by
  unfold M.impl_BucketOf bucketL
  simp only [okBucket_ok sp sl hv, Option.bind_some]
  cases hB : okBu ps l v bits with
  | false => simp
  | true =>
    have hl := (okStore_iff.1 (okBu_iff.1 hB).2.1).1
    have hf := List.length_filter_le (inBucket ps v bits) l
    simp only [Bool.not_true, cond_false, bucketItems_ok sp hB, Option.bind_some, if_true]
    rw [keysOf_ok (by omega)]; rfl
theorem bucketL_len {ps : List (List Int)} {l : List Item} {v : List Int} {bits : Int} : (bucketL ps l v bits).length < 2000000 := by
  unfold bucketL
  split
  · rename_i hB
    have hl := (okStore_iff.1 (okBu_iff.1 hB).2.1).1
    have hf := List.length_filter_le (inBucket ps v bits) l
    rw [List.length_map]; omega
  · simp
end Go.Vs

namespace Go.Vs

/-! ## Ranked again -/
/-! ## The nearest of a bucket -/
end Go.Vs

namespace Go.Vs

section
variable {b : Book} (h : b.1.length ≤ 1048576 ∧ ∀ x ∈ b.1, x.length ≤ 1048576) (g : b.2.length ≤ 1048576 ∧ ∀ x ∈ b.2, x.length ≤ 1048576)
include h g
end
theorem law_ExactBucketOf (ps : List (List Int)) (l : List Item) (v : List Int) (n : Int) (ha : OkCs ps) (hb : OkIs l) : M.laws_FnExactBucketOf ps l v n = some true := by
  unfold M.laws_FnExactBucketOf
  by_cases hc : 1048576 < (v.length : Int)
  · simp [hc]
  have la : v.length ≤ 1048576 := by omega
  have la' : v.length < 2000000 := by omega
  obtain ⟨s, es, hs⟩ := szC_ok (left := 1048576) ha (by omega) (by omega)
  simp only [hc, decide_false, cond_false, es, Option.bind_some]
  rcases hs with hs | ⟨h0, hle, h1, h2⟩
  · simp [hs]
  have hn : ¬ s < 0 := by omega
  obtain ⟨t, et, ht⟩ := szItemS_ok (left := s) hb.1 (fun x hx => (hb.2 x hx).2.1.1) h0 hle
  simp only [hn, decide_false, cond_false, et, Option.bind_some]
  rcases ht with ht | ⟨g0, g1, g2⟩
  · simp [ht]
  have hm : ¬ t < 0 := by omega
  have sc := smallC_of h1 h2
  have sl : SmallS l := ⟨by omega, g2⟩
  obtain ⟨k, hk, k1, k2⟩ := markIntSD_ok h1 h2
  obtain ⟨k', hk', k1', k2'⟩ := markItemD_at (k := k) g1 g2 (by omega) (by omega)
  have hn1 : ¬ (k' + (v.length : Int)) < 0 := by omega
  have lm := bucketL_len (ps := ps) (l := l) (v := v) (bits := n)
  have hn2 : ¬ (1 + ((bucketL ps l v n).length : Int)) < 0 := by omega
  simp only [hm, decide_false, cond_false, dIntSS_ok h1 h2, dItemS_ok g1 g2, toIntS_ok la, Option.bind_some, specBucket_ok sc sl la', implBucket_ok sc sl la', eqIntS_ok lm, eqIntS_ok la', decide_true, Bool.not_true, eqIntSS_self sc.1 sc.2, eqItemS_self (show l.length < 2000000 by omega) sl.hb, hk, hk', markIntS_ok (k := k') la' (by omega) (by omega), hn1, markIntS_ok lm one0 one1, heldIntS_ok lm one0 one1, hn2, bne_self_eq_false]
end Go.Vs
