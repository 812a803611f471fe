/- The laws of Distance. -/
import Derived.Test.YtcgkbgidfilodaaVsP3
set_option linter.unusedVariables false
set_option linter.unusedSimpArgs false
namespace Go.Vs

/-- What Distance answers. -/
def dist (k : Int) (a b : List Int) : Int :=
  if isVec a = true ∧ isVec b = true then dk k (gap (a.getD 0 0) (b.getD 0 0)) (gap (a.getD 1 0) (b.getD 1 0)) (gap (a.getD 2 0) (b.getD 2 0)) (gap (a.getD 3 0) (b.getD 3 0)) else -1
theorem dist_vec {k : Int} {a b c d x y z w : Int} (ha : isVec [a, b, c, d] = true) (hb : isVec [x, y, z, w] = true) : dist k [a, b, c, d] [x, y, z, w] = dk k (gap a x) (gap b y) (gap c z) (gap d w) := by
  unfold dist; rw [if_pos ⟨ha, hb⟩]; rfl
theorem isVec_cut {v : List Int} (h : isVec v = true) : ∃ a b c d, v = [a, b, c, d] ∧ Co a ∧ Co b ∧ Co c ∧ Co d := isVec_four h

theorem implDistance_ok (k : Int) {a b : List Int} (ha : a.length < 2000000) (hb : b.length < 2000000) : M.impl_Distance k a b = some (dist k a b) := by
  unfold M.impl_Distance
  simp only [impl_valid a ha, Option.bind_some]
  by_cases va : isVec a = true
  · simp only [va, Bool.not_true, cond_false, impl_valid b hb, Option.bind_some]
    by_cases vb : isVec b = true
    · simp only [vb, Bool.not_true, cond_false]
      obtain ⟨x0, x1, x2, x3, rfl, c0, c1, c2, c3⟩ := isVec_cut va
      obtain ⟨y0, y1, y2, y3, rfl, e0, e1, e2, e3⟩ := isVec_cut vb
      rw [dist_vec va vb, garr_ok (by simp), garr_ok (by simp)]
      simp only [Option.bind_some, List.take_succ_cons, List.take_zero, gapsOf_ok c0 c1 c2 c3 e0 e1 e2 e3]
      rw [distanceOf_ok k (gap_nonneg _ _) (gap_le c0 e0) (gap_nonneg _ _) (gap_le c1 e1) (gap_nonneg _ _) (gap_le c2 e2) (gap_nonneg _ _) (gap_le c3 e3)]
      rfl
    · have vb' : isVec b = false := by simpa using vb
      simp [vb', dist]
  · have va' : isVec a = false := by simpa using va
    simp [va', dist]
theorem specDistance_ok (k : Int) {a b : List Int} (ha : a.length < 2000000) (hb : b.length < 2000000) : M.spec_Distance k a b = some (dist k a b) := by
  unfold M.spec_Distance M.spec_validKind
  simp only [spec_inR, Option.bind_some]
  by_cases hk : 1 ≤ k ∧ k ≤ 4
  · simp only [hk.1, hk.2, decide_true, Bool.and_self, Bool.not_true, cond_false, spec_isVec a ha, Option.bind_some]
    by_cases va : isVec a = true
    · simp only [va, Bool.not_true, cond_false, spec_isVec b hb, Option.bind_some]
      by_cases vb : isVec b = true
      · simp only [vb, Bool.not_true, cond_false]
        obtain ⟨x0, x1, x2, x3, rfl, c0, c1, c2, c3⟩ := isVec_cut va
        obtain ⟨y0, y1, y2, y3, rfl, e0, e1, e2, e3⟩ := isVec_cut vb
        rw [dist_vec va vb, specDist_ok hk c0 c1 c2 c3 e0 e1 e2 e3]; rfl
      · have vb' : isVec b = false := by simpa using vb
        simp [vb', dist]
    · have va' : isVec a = false := by simpa using va
      simp [va', dist]
  · have e : (decide (1 ≤ k) && decide (k ≤ 4)) = false := by simp; omega
    have : dist k a b = -1 := by
      unfold dist
      split
      · unfold dk
        rw [if_neg (by omega), if_neg (by omega), if_neg (by omega), if_neg (by omega)]
      · rfl
    simp [e, this]

theorem kind_ok {k : Nat} (hk : k ≤ 900000) {r : List UInt8 × Int} (hr : Good k r) :
    ∃ x r', M.spec_anyKind r = some (x, r') ∧ Good (k + 1) r' := by
  obtain ⟨x3, r3, h3, g3, m3⟩ := one_ok (by omega) hr (list := [1, 2, 3, 4, 1, 2, 3, 4, 1, 2, 0, 5]) (by simp)
  exact ⟨x3, r3, by unfold M.spec_anyKind; simp only [h3, Option.bind_some], g3⟩
theorem drawDistance_ok (code : List UInt8) : ∃ k a b, M.spec_DrawDistance code = some (k, a, b) ∧ Near a ∧ Near b := by
  obtain ⟨r, h, g⟩ := newReader_ok code
  obtain ⟨k, r1, h1, g1⟩ := kind_ok (by omega) g
  obtain ⟨v, r2, h2, g2, n⟩ := any_ok (by omega) g1
  obtain ⟨u, r3, h3, g3, n'⟩ := any_ok (by omega) g2
  exact ⟨k, v, u, by unfold M.spec_DrawDistance; simp only [h, h1, h2, h3, Option.bind_some], n, n'⟩

theorem equalInts_ok {a b : List Int} (ha : a.length < 2000000) : M.laws_equalInts a b = some (decide (a = b)) := by
  unfold M.laws_equalInts
  by_cases hl : a.length = b.length
  · have e : ((a.length : Int) != (b.length : Int)) = false := by simp; omega
    simp only [e, cond_false]
    rw [loop_all (xs := a.zip b) (P := fun p => p.1 == p.2) (r := false)]
    · by_cases h : a = b
      · subst h
        have : (a.zip a).all (fun p => p.1 == p.2) = true := by
          rw [List.all_eq_true]; intro p hp
          obtain ⟨i, hi, rfl⟩ := List.mem_iff_getElem.1 hp
          simp
        rw [if_pos this]; simp [selim]
      · have : ¬ (a.zip b).all (fun p => p.1 == p.2) = true := by
          intro hh; apply h
          apply List.ext_getElem hl
          intro i h1 h2
          rw [List.all_eq_true] at hh
          have := hh (a[i], b[i]) (List.mem_iff_getElem.2 ⟨i, by simp; omega, by simp⟩)
          simpa using this
        rw [if_neg this]; simp [selim, h]
    · intro i hi
      have hi1 : i < a.length := by simp at hi; omega
      have hi2 : i < b.length := by simp at hi; omega
      have e1 : decide ((i : Int) < (a.length : Int)) = true := by simpa using hi1
      have e2 : w64 ((i : Int) + 1) = (i : Int) + 1 := w64_id (by omega) (by omega)
      simp only [e1, cond_true, gidx_nat hi1, gidx_nat hi2, Option.bind_some, e2, List.getElem_zip]
      by_cases hc : a[i] = b[i]
      · simp [hc]
      · have hb : (a[i] == b[i]) = false := by simpa using hc
        have hb' : (a[i] != b[i]) = true := by simpa using hc
        simp [hb, hb']
    · have : (a.zip b).length = a.length := by simp; omega
      rw [this]; simp
  · have e : ((a.length : Int) != (b.length : Int)) = true := by simp; omega
    have : a ≠ b := fun h => hl (by rw [h])
    simp [e, this]

theorem dist_comm (k : Int) (a b : List Int) : dist k a b = dist k b a := by
  unfold dist
  by_cases h : isVec a = true ∧ isVec b = true
  · rw [if_pos h, if_pos h.symm, gap_comm (a.getD 0 0), gap_comm (a.getD 1 0), gap_comm (a.getD 2 0), gap_comm (a.getD 3 0)]
  · rw [if_neg h, if_neg (fun c => h c.symm)]

/-- Gaps of two vectors. -/
structure Gaps (g0 g1 g2 g3 : Int) : Prop where
  n0 : 0 ≤ g0
  n1 : 0 ≤ g1
  n2 : 0 ≤ g2
  n3 : 0 ≤ g3
  m0 : g0 ≤ 200
  m1 : g1 ≤ 200
  m2 : g2 ≤ 200
  m3 : g3 ≤ 200
theorem gaps_of {a b c d x y z w : Int} (c0 : Co a) (c1 : Co b) (c2 : Co c) (c3 : Co d) (e0 : Co x) (e1 : Co y) (e2 : Co z) (e3 : Co w) : Gaps (gap a x) (gap b y) (gap c z) (gap d w) :=
  ⟨gap_nonneg _ _, gap_nonneg _ _, gap_nonneg _ _, gap_nonneg _ _, gap_le c0 e0, gap_le c1 e1, gap_le c2 e2, gap_le c3 e3⟩
theorem dk_range {k g0 g1 g2 g3 : Int} (h : Gaps g0 g1 g2 g3) : -1 ≤ dk k g0 g1 g2 g3 ∧ dk k g0 g1 g2 g3 < 1000000 := by
  obtain ⟨n0, n1, n2, n3, m0, m1, m2, m3⟩ := h
  have s0 := sq_bounds n0 m0
  have s1 := sq_bounds n1 m1
  have s2 := sq_bounds n2 m2
  have s3 := sq_bounds n3 m3
  unfold dk
  split
  · omega
  split
  · omega
  split
  · generalize g0 * g0 = q0 at *
    generalize g1 * g1 = q1 at *
    generalize g2 * g2 = q2 at *
    generalize g3 * g3 = q3 at *
    omega
  split <;> omega
theorem dk_kind {k g0 g1 g2 g3 : Int} (h : Gaps g0 g1 g2 g3) (hp : 0 ≤ dk k g0 g1 g2 g3) : 1 ≤ k ∧ k ≤ 4 := by
  unfold dk at hp
  by_cases k1 : k = 1
  · omega
  by_cases k2 : k = 2
  · omega
  by_cases k3 : k = 3
  · omega
  by_cases k4 : k = 4
  · omega
  rw [if_neg k1, if_neg k2, if_neg k3, if_neg k4] at hp; omega
theorem dk_zero {k g0 g1 g2 g3 : Int} (h : Gaps g0 g1 g2 g3) (hk : 1 ≤ k ∧ k ≤ 4) : dk k g0 g1 g2 g3 = 0 ↔ g0 = 0 ∧ g1 = 0 ∧ g2 = 0 ∧ g3 = 0 := by
  obtain ⟨n0, n1, n2, n3, m0, m1, m2, m3⟩ := h
  have s0 := sq_bounds n0 m0
  have s1 := sq_bounds n1 m1
  have s2 := sq_bounds n2 m2
  have s3 := sq_bounds n3 m3
  by_cases k1 : k = 1
  · subst k1; simp only [dk, if_true]; omega
  by_cases k2 : k = 2
  · subst k2; rw [dk, if_neg (by omega), if_pos rfl]; omega
  by_cases k3 : k = 3
  · subst k3; rw [dk, if_neg (by omega), if_neg (by omega), if_pos rfl]
    constructor
    · intro e; omega
    · rintro ⟨rfl, rfl, rfl, rfl⟩; rfl
  · have k4 : k = 4 := by omega
    subst k4; rw [dk, if_neg (by omega), if_neg (by omega), if_neg (by omega), if_pos rfl]; omega

theorem dist_neg {k : Int} {a b : List Int} : dist k a b < 0 ∨ (isVec a = true ∧ isVec b = true ∧ 0 ≤ dist k a b) := by
  by_cases h : isVec a = true ∧ isVec b = true
  · rcases Int.lt_or_le (dist k a b) 0 with h' | h'
    · exact .inl h'
    · exact .inr ⟨h.1, h.2, h'⟩
  · exact .inl (by unfold dist; rw [if_neg h]; omega)

theorem law_Distance (code : List UInt8) : M.laws_FnDistance code = some true := by
  obtain ⟨k, a, b, h, na, nb⟩ := drawDistance_ok code
  have la : a.length < 2000000 := by have := na.1; omega
  have lb : b.length < 2000000 := by have := nb.1; omega
  unfold M.laws_FnDistance
  by_cases hc : 1048576 < (code.length : Int)
  · simp [hc]
  simp only [hc, decide_false, cond_false, h, Option.bind_some, implDistance_ok k la lb, specDistance_ok k la lb, implDistance_ok k lb la, equalInts_ok la, dist_comm k b a, bne_self_eq_false, BEq.rfl]
  rcases dist_neg (k := k) (a := a) (b := b) with hn | ⟨va, vb, hp⟩
  · simp [hn]
  · have e : decide (dist k a b < 0) = false := by simpa using hp
    simp only [e, cond_false, cond_true]
    obtain ⟨x0, x1, x2, x3, rfl, c0, c1, c2, c3⟩ := isVec_cut va
    obtain ⟨y0, y1, y2, y3, rfl, e0, e1, e2, e3⟩ := isVec_cut vb
    rw [dist_vec va vb] at hp ⊢
    have G := gaps_of c0 c1 c2 c3 e0 e1 e2 e3
    have hz := dk_zero G (dk_kind G hp)
    simp only [gap_zero] at hz
    have he : (dk k (gap x0 y0) (gap x1 y1) (gap x2 y2) (gap x3 y3) == 0) = decide (([x0, x1, x2, x3] : List Int) = [y0, y1, y2, y3]) := by
      rw [Bool.eq_iff_iff]; simpa using hz
    have hr := (dk_range (k := k) G).2
    simp [he, hr]

theorem law_DistanceKinds (code : List UInt8) : M.laws_FnDistanceKinds code = some true := by
  obtain ⟨k, a, b, h, na, nb⟩ := drawDistance_ok code
  have la : a.length < 2000000 := by have := na.1; omega
  have lb : b.length < 2000000 := by have := nb.1; omega
  unfold M.laws_FnDistanceKinds
  by_cases hc : 1048576 < (code.length : Int)
  · simp [hc]
  simp only [hc, decide_false, cond_false, h, Option.bind_some, implDistance_ok k la lb, specDistance_ok k la lb, implDistance_ok _ la lb, bne_self_eq_false, BEq.rfl]
  rcases dist_neg (k := k) (a := a) (b := b) with hn | ⟨va, vb, hp⟩
  · simp [hn]
  · have e : decide (dist k a b < 0) = false := by simpa using hp
    simp only [e, cond_false]
    obtain ⟨x0, x1, x2, x3, rfl, c0, c1, c2, c3⟩ := isVec_cut va
    obtain ⟨y0, y1, y2, y3, rfl, e0, e1, e2, e3⟩ := isVec_cut vb
    simp only [dist_vec va vb]
    obtain ⟨n0, n1, n2, n3, m0, m1, m2, m3⟩ := gaps_of c0 c1 c2 c3 e0 e1 e2 e3
    generalize gap x0 y0 = g0 at *
    generalize gap x1 y1 = g1 at *
    generalize gap x2 y2 = g2 at *
    generalize gap x3 y3 = g3 at *
    have s0 := sq_bounds n0 m0
    have s1 := sq_bounds n1 m1
    have s2 := sq_bounds n2 m2
    have s3 := sq_bounds n3 m3
    have d1 : dk 1 g0 g1 g2 g3 = g0 + g1 + g2 + g3 := rfl
    have d2 : dk 2 g0 g1 g2 g3 = max (max (max (max 0 g0) g1) g2) g3 := rfl
    have d3 : dk 3 g0 g1 g2 g3 = g0 * g0 + g1 * g1 + g2 * g2 + g3 * g3 := rfl
    have d4 : dk 4 g0 g1 g2 g3 = min g0 1 + min g1 1 + min g2 1 + min g3 1 := rfl
    rw [d1, d2, d3, d4]
    have f1 : max (max (max (max 0 g0) g1) g2) g3 ≤ g0 + g1 + g2 + g3 := by omega
    have f2 : min g0 1 + min g1 1 + min g2 1 + min g3 1 ≤ g0 + g1 + g2 + g3 := by omega
    have f3 : g0 + g1 + g2 + g3 ≤ g0 * g0 + g1 * g1 + g2 * g2 + g3 * g3 := by omega
    have f4 : w64 (4 * max (max (max (max 0 g0) g1) g2) g3) = 4 * max (max (max (max 0 g0) g1) g2) g3 := w64_id (by omega) (by omega)
    have f5 : g0 + g1 + g2 + g3 ≤ 4 * max (max (max (max 0 g0) g1) g2) g3 := by omega
    have f6 : min g0 1 + min g1 1 + min g2 1 + min g3 1 ≤ 4 := by omega
    rw [f4]
    simp only [f1, f2, f3, f5, f6, decide_true, cond_true]
end Go.Vs
