/- The triangle of distances; products. -/
import Derived.Test.YtcgkbgidfilodaaVsP4
set_option linter.unusedVariables false
set_option linter.unusedSimpArgs false
namespace Go.Vs

theorem gap_tri {x y : Int} : gap x y ≤ gap x 0 + gap 0 y := by unfold gap; omega
theorem isVec_zero : isVec [0, 0, 0, 0] = true := rfl
theorem co_zero : Co 0 := by unfold Co; omega

theorem dk_tri {k g0 g1 g2 g3 p0 p1 p2 p3 q0 q1 q2 q3 : Int} (hk : k = 1 ∨ k = 2 ∨ k = 4) (hg : Gaps g0 g1 g2 g3) (hp : Gaps p0 p1 p2 p3) (hq : Gaps q0 q1 q2 q3) (t0 : g0 ≤ p0 + q0) (t1 : g1 ≤ p1 + q1) (t2 : g2 ≤ p2 + q2) (t3 : g3 ≤ p3 + q3) :
    dk k g0 g1 g2 g3 ≤ dk k p0 p1 p2 p3 + dk k q0 q1 q2 q3 := by
  obtain ⟨a0, a1, a2, a3, _, _, _, _⟩ := hg
  obtain ⟨b0, b1, b2, b3, _, _, _, _⟩ := hp
  obtain ⟨c0, c1, c2, c3, _, _, _, _⟩ := hq
  rcases hk with rfl | rfl | rfl
  · show g0 + g1 + g2 + g3 ≤ (p0 + p1 + p2 + p3) + (q0 + q1 + q2 + q3); omega
  · show max (max (max (max 0 g0) g1) g2) g3 ≤ max (max (max (max 0 p0) p1) p2) p3 + max (max (max (max 0 q0) q1) q2) q3
    have hP : ∀ P : Int, max (max (max (max 0 p0) p1) p2) p3 = P → 0 ≤ P ∧ p0 ≤ P ∧ p1 ≤ P ∧ p2 ≤ P ∧ p3 ≤ P := by intro P h; omega
    have hQ : ∀ P : Int, max (max (max (max 0 q0) q1) q2) q3 = P → 0 ≤ P ∧ q0 ≤ P ∧ q1 ≤ P ∧ q2 ≤ P ∧ q3 ≤ P := by intro P h; omega
    have hP := hP _ rfl
    have hQ := hQ _ rfl
    generalize max (max (max (max 0 p0) p1) p2) p3 = P at *
    generalize max (max (max (max 0 q0) q1) q2) q3 = Q at *
    omega
  · show min g0 1 + min g1 1 + min g2 1 + min g3 1 ≤ (min p0 1 + min p1 1 + min p2 1 + min p3 1) + (min q0 1 + min q1 1 + min q2 1 + min q3 1)
    have h0 : min g0 1 ≤ min p0 1 + min q0 1 := by omega
    have h1 : min g1 1 ≤ min p1 1 + min q1 1 := by omega
    have h2 : min g2 1 ≤ min p2 1 + min q2 1 := by omega
    have h3 : min g3 1 ≤ min p3 1 + min q3 1 := by omega
    generalize min g0 1 = m0 at *
    generalize min g1 1 = m1 at *
    generalize min g2 1 = m2 at *
    generalize min g3 1 = m3 at *
    omega

theorem law_DistanceTriangle (code : List UInt8) : M.laws_FnDistanceTriangle code = some true := by
  obtain ⟨k, a, b, h, na, nb⟩ := drawDistance_ok code
  have la : a.length < 2000000 := by have := na.1; omega
  have lb : b.length < 2000000 := by have := nb.1; omega
  have lz : ([0, 0, 0, 0] : List Int).length < 2000000 := by simp
  unfold M.laws_FnDistanceTriangle
  by_cases hc : 1048576 < (code.length : Int)
  · simp [hc]
  have hz : (gmake 4 (0 : Int)) = some [0, 0, 0, 0] := by rw [gmake_ok (by omega) (by omega)]; rfl
  simp only [hc, decide_false, cond_false, h, Option.bind_some, hz, implDistance_ok k la lb, specDistance_ok k la lb, implDistance_ok _ la lz, implDistance_ok _ lz lb, bne_self_eq_false, BEq.rfl]
  rcases dist_neg (k := k) (a := a) (b := b) with hn | ⟨va, vb, hp⟩
  · simp [hn]
  · have e : decide (dist k a b < 0) = false := by simpa using hp
    simp only [e, cond_false]
    by_cases k3 : k = 3
    · simp [k3]
    · have e3 : (k == 3) = false := by simpa using k3
      simp only [e3, Option.bind_some, cond_false]
      obtain ⟨x0, x1, x2, x3, rfl, c0, c1, c2, c3⟩ := isVec_cut va
      obtain ⟨y0, y1, y2, y3, rfl, f0, f1, f2, f3⟩ := isVec_cut vb
      simp only [dist_vec va vb, dist_vec va isVec_zero, dist_vec isVec_zero vb] at hp ⊢
      have G := gaps_of c0 c1 c2 c3 f0 f1 f2 f3
      have P := gaps_of c0 c1 c2 c3 co_zero co_zero co_zero co_zero
      have Q := gaps_of co_zero co_zero co_zero co_zero f0 f1 f2 f3
      have hk := dk_kind G hp
      have t := dk_tri (k := k) (by omega) G P Q gap_tri gap_tri gap_tri gap_tri
      have r1 := dk_range (k := k) P
      have r2 := dk_range (k := k) Q
      rw [w64_id (by omega) (by omega)]
      simp [t]

/-- The product of two vectors. -/
def dotv (a b : List Int) : Int := a.getD 0 0 * b.getD 0 0 + a.getD 1 0 * b.getD 1 0 + a.getD 2 0 * b.getD 2 0 + a.getD 3 0 * b.getD 3 0
theorem mul_bounds {x y : Int} (hx : Co x) (hy : Co y) : -10000 ≤ x * y ∧ x * y ≤ 10000 := by
  have h1 := sq_bounds (gap_nonneg x y) (gap_le hx hy)
  unfold Co at hx hy
  have k1 : (100 - x) * (100 - y) ≥ 0 := Int.mul_nonneg (by omega) (by omega)
  have k2 : (100 + x) * (100 + y) ≥ 0 := Int.mul_nonneg (by omega) (by omega)
  have k3 : (100 - x) * (100 + y) ≥ 0 := Int.mul_nonneg (by omega) (by omega)
  have k4 : (100 + x) * (100 - y) ≥ 0 := Int.mul_nonneg (by omega) (by omega)
  have e1 : (100 - x) * (100 - y) = 10000 - 100 * x - 100 * y + x * y := by grind
  have e2 : (100 + x) * (100 + y) = 10000 + 100 * x + 100 * y + x * y := by grind
  have e3 : (100 - x) * (100 + y) = 10000 - 100 * x + 100 * y - x * y := by grind
  have e4 : (100 + x) * (100 - y) = 10000 + 100 * x - 100 * y - x * y := by grind
  omega
theorem dot_loop {f : Int × Int → Option ((Int × Int) ⊕ Int)} {a b c d x y z w : Int} (ha : Co a) (hb : Co b) (hc : Co c) (hd : Co d) (hx : Co x) (hy : Co y) (hz : Co z) (hw : Co w)
    (h0 : f (0, 0) = some (.inl (w64 (0 + w64 (a * x)), w64 (0 + 1)))) (h1 : ∀ n, f (n, 1) = some (.inl (w64 (n + w64 (b * y)), w64 (1 + 1)))) (h2 : ∀ n, f (n, 2) = some (.inl (w64 (n + w64 (c * z)), w64 (2 + 1)))) (h3 : ∀ n, f (n, 3) = some (.inl (w64 (n + w64 (d * w)), w64 (3 + 1)))) (h4 : ∀ n, f (n, 4) = some (.inr n)) :
    loopM f (0, 0) = some (a * x + b * y + c * z + d * w) := by
  have m0 := mul_bounds ha hx
  have m1 := mul_bounds hb hy
  have m2 := mul_bounds hc hz
  have m3 := mul_bounds hd hw
  have q0 : w64 (a * x) = a * x := w64_id (by omega) (by omega)
  have q1 : w64 (b * y) = b * y := w64_id (by omega) (by omega)
  have q2 : w64 (c * z) = c * z := w64_id (by omega) (by omega)
  have q3 : w64 (d * w) = d * w := w64_id (by omega) (by omega)
  have e0 : w64 (0 + a * x) = a * x := by rw [w64_id (by omega) (by omega)]; omega
  have e1 : w64 (a * x + b * y) = a * x + b * y := w64_id (by omega) (by omega)
  have e2 : w64 (a * x + b * y + c * z) = a * x + b * y + c * z := w64_id (by omega) (by omega)
  have e3 : w64 (a * x + b * y + c * z + d * w) = a * x + b * y + c * z + d * w := w64_id (by omega) (by omega)
  refine loop4 (s1 := (a * x, 1)) (s2 := (a * x + b * y, 2)) (s3 := (a * x + b * y + c * z, 3)) (s4 := (a * x + b * y + c * z + d * w, 4)) ?_ ?_ ?_ ?_ ?_
  · rw [h0, q0, e0, i01]
  · rw [h1, q1, e1, i12]
  · rw [h2, q2, e2, i23]
  · rw [h3, q3, e3, i34]
  · rw [h4]

/-- What DotOf answers. -/
def dotOf (a b : List Int) : Int × Bool := if isVec a = true ∧ isVec b = true then (dotv a b, true) else (0, false)
theorem implDot_ok {a b : List Int} (ha : a.length < 2000000) (hb : b.length < 2000000) : M.impl_DotOf a b = some (dotOf a b) := by
  unfold M.impl_DotOf
  simp only [impl_valid a ha, Option.bind_some]
  by_cases va : isVec a = true
  · simp only [va, Bool.not_true, cond_false, impl_valid b hb, Option.bind_some]
    by_cases vb : isVec b = true
    · simp only [vb, Bool.not_true, cond_false, dotOf, va, and_self, if_true]
      obtain ⟨x0, x1, x2, x3, rfl, c0, c1, c2, c3⟩ := isVec_cut va
      obtain ⟨y0, y1, y2, y3, rfl, e0, e1, e2, e3⟩ := isVec_cut vb
      rw [dot_loop c0 c1 c2 c3 e0 e1 e2 e3]
      · rfl
      · simp only [d04, gi0, cond_true, Option.bind_some]
      · intro n; simp only [d14, gi1, cond_true, Option.bind_some]
      · intro n; simp only [d24, gi2, cond_true, Option.bind_some]
      · intro n; simp only [d34, gi3, cond_true, Option.bind_some]
      · intro n; simp only [d44, cond_false]
    · have vb' : isVec b = false := by simpa using vb
      simp [vb', dotOf]
  · have va' : isVec a = false := by simpa using va
    simp [va', dotOf]
theorem specDot_ok {a b : List Int} (ha : a.length < 2000000) (hb : b.length < 2000000) : M.spec_DotOf a b = some (dotOf a b) := by
  unfold M.spec_DotOf
  simp only [spec_isVec a ha, Option.bind_some]
  by_cases va : isVec a = true
  · simp only [va, Bool.not_true, cond_false, spec_isVec b hb, Option.bind_some]
    by_cases vb : isVec b = true
    · simp only [vb, Bool.not_true, cond_false, dotOf, va, and_self, if_true]
      obtain ⟨x0, x1, x2, x3, rfl, c0, c1, c2, c3⟩ := isVec_cut va
      obtain ⟨y0, y1, y2, y3, rfl, e0, e1, e2, e3⟩ := isVec_cut vb
      rw [dot_loop c0 c1 c2 c3 e0 e1 e2 e3]
      · rfl
      · simp only [l4, d04, gi0, cond_true, Option.bind_some]
      · intro n; simp only [l4, d14, gi1, cond_true, Option.bind_some]
      · intro n; simp only [l4, d24, gi2, cond_true, Option.bind_some]
      · intro n; simp only [l4, d34, gi3, cond_true, Option.bind_some]
      · intro n; simp only [l4, d44, cond_false]
    · have vb' : isVec b = false := by simpa using vb
      simp [vb', dotOf]
  · have va' : isVec a = false := by simpa using va
    simp [va', dotOf]

theorem drawDotOf_ok (code : List UInt8) : ∃ a b, M.spec_DrawDotOf code = some (a, b) ∧ Near a ∧ Near b := by
  obtain ⟨r, h, g⟩ := newReader_ok code
  obtain ⟨v, r2, h2, g2, n⟩ := any_ok (by omega) g
  obtain ⟨u, r3, h3, g3, n'⟩ := any_ok (by omega) g2
  exact ⟨v, u, by unfold M.spec_DrawDotOf; simp only [h, h2, h3, Option.bind_some], n, n'⟩

theorem dotOf_false {a b : List Int} : (dotOf a b).2 = false ∨ (isVec a = true ∧ isVec b = true) := by
  unfold dotOf; split
  · rename_i h; exact .inr h
  · exact .inl rfl
theorem dotOf_vec {a b : List Int} (ha : isVec a = true) (hb : isVec b = true) : dotOf a b = (dotv a b, true) := by unfold dotOf; rw [if_pos ⟨ha, hb⟩]

theorem law_DotOf (code : List UInt8) : M.laws_FnDotOf code = some true := by
  obtain ⟨a, b, h, na, nb⟩ := drawDotOf_ok code
  have la : a.length < 2000000 := by have := na.1; omega
  have lb : b.length < 2000000 := by have := nb.1; omega
  unfold M.laws_FnDotOf
  by_cases hc : 1048576 < (code.length : Int)
  · simp [hc]
  simp only [hc, decide_false, cond_false, h, Option.bind_some, implDot_ok la lb, specDot_ok la lb, implDot_ok la la, implDot_ok lb lb, implDot_ok lb la, implDistance_ok _ la lb, bne_self_eq_false, BEq.rfl, cond_true]
  rcases dotOf_false (a := a) (b := b) with hn | ⟨va, vb⟩
  · simp [hn]
  · simp only [dotOf_vec va vb, dotOf_vec va va, dotOf_vec vb vb, dotOf_vec vb va, Bool.not_true, cond_false, cond_true]
    obtain ⟨x0, x1, x2, x3, rfl, c0, c1, c2, c3⟩ := isVec_cut va
    obtain ⟨y0, y1, y2, y3, rfl, e0, e1, e2, e3⟩ := isVec_cut vb
    have d1 : dotv [y0, y1, y2, y3] [x0, x1, x2, x3] = dotv [x0, x1, x2, x3] [y0, y1, y2, y3] := by
      show y0 * x0 + y1 * x1 + y2 * x2 + y3 * x3 = x0 * y0 + x1 * y1 + x2 * y2 + x3 * y3
      grind
    simp only [d1, BEq.rfl, cond_true, dist_vec va vb]
    have hsq : ∀ x y : Int, gap x y * gap x y = x * x + y * y - 2 * (x * y) := by
      intro x y
      unfold gap
      rcases Int.le_total (x - y) (y - x) with q | q
      · rw [Int.max_eq_right q]; grind
      · rw [Int.max_eq_left q]; grind
    have d3 : dk 3 (gap x0 y0) (gap x1 y1) (gap x2 y2) (gap x3 y3) = gap x0 y0 * gap x0 y0 + gap x1 y1 * gap x1 y1 + gap x2 y2 * gap x2 y2 + gap x3 y3 * gap x3 y3 := rfl
    have eA : dotv [x0, x1, x2, x3] [x0, x1, x2, x3] = x0 * x0 + x1 * x1 + x2 * x2 + x3 * x3 := rfl
    have eB : dotv [y0, y1, y2, y3] [y0, y1, y2, y3] = y0 * y0 + y1 * y1 + y2 * y2 + y3 * y3 := rfl
    have eC : dotv [x0, x1, x2, x3] [y0, y1, y2, y3] = x0 * y0 + x1 * y1 + x2 * y2 + x3 * y3 := rfl
    rw [d3, hsq, hsq, hsq, hsq, eA, eB, eC]
    have := mul_bounds c0 c0
    have := mul_bounds c1 c1
    have := mul_bounds c2 c2
    have := mul_bounds c3 c3
    have := mul_bounds e0 e0
    have := mul_bounds e1 e1
    have := mul_bounds e2 e2
    have := mul_bounds e3 e3
    have := mul_bounds c0 e0
    have := mul_bounds c1 e1
    have := mul_bounds c2 e2
    have := mul_bounds c3 e3
    generalize x0 * x0 = p0 at *
    generalize x1 * x1 = p1 at *
    generalize x2 * x2 = p2 at *
    generalize x3 * x3 = p3 at *
    generalize y0 * y0 = q0 at *
    generalize y1 * y1 = q1 at *
    generalize y2 * y2 = q2 at *
    generalize y3 * y3 = q3 at *
    generalize x0 * y0 = r0 at *
    generalize x1 * y1 = r1 at *
    generalize x2 * y2 = r2 at *
    generalize x3 * y3 = r3 at *
    rw [w64_id (n := p0 + p1 + p2 + p3 + (q0 + q1 + q2 + q3)) (by omega) (by omega), w64_id (n := 2 * (r0 + r1 + r2 + r3)) (by omega) (by omega), w64_id (by omega) (by omega)]
    simp only [Option.some.injEq, beq_iff_eq]
    omega

theorem lagrange (a b c d x y z w : Int) : (a*a+b*b+c*c+d*d)*(x*x+y*y+z*z+w*w) - (a*x+b*y+c*z+d*w)*(a*x+b*y+c*z+d*w) = (a*y-b*x)*(a*y-b*x)+(a*z-c*x)*(a*z-c*x)+(a*w-d*x)*(a*w-d*x)+(b*z-c*y)*(b*z-c*y)+(b*w-d*y)*(b*w-d*y)+(c*w-d*z)*(c*w-d*z) := by grind
theorem sq_nonneg (x : Int) : 0 ≤ x * x := by
  rcases Int.le_total 0 x with h | h
  · exact Int.mul_nonneg h h
  · exact Int.mul_nonneg_of_nonpos_of_nonpos h h

theorem law_DotOfBound (code : List UInt8) : M.laws_FnDotOfBound code = some true := by
  obtain ⟨a, b, h, na, nb⟩ := drawDotOf_ok code
  have la : a.length < 2000000 := by have := na.1; omega
  have lb : b.length < 2000000 := by have := nb.1; omega
  unfold M.laws_FnDotOfBound
  by_cases hc : 1048576 < (code.length : Int)
  · simp [hc]
  simp only [hc, decide_false, cond_false, h, Option.bind_some, implDot_ok la lb, specDot_ok la lb, implDot_ok la la, implDot_ok lb lb, bne_self_eq_false, BEq.rfl, cond_true]
  rcases dotOf_false (a := a) (b := b) with hn | ⟨va, vb⟩
  · simp [hn]
  · simp only [dotOf_vec va vb, dotOf_vec va va, dotOf_vec vb vb, Bool.not_true, cond_false, cond_true]
    obtain ⟨x0, x1, x2, x3, rfl, c0, c1, c2, c3⟩ := isVec_cut va
    obtain ⟨y0, y1, y2, y3, rfl, e0, e1, e2, e3⟩ := isVec_cut vb
    have eA : dotv [x0, x1, x2, x3] [x0, x1, x2, x3] = x0 * x0 + x1 * x1 + x2 * x2 + x3 * x3 := rfl
    have eB : dotv [y0, y1, y2, y3] [y0, y1, y2, y3] = y0 * y0 + y1 * y1 + y2 * y2 + y3 * y3 := rfl
    have eC : dotv [x0, x1, x2, x3] [y0, y1, y2, y3] = x0 * y0 + x1 * y1 + x2 * y2 + x3 * y3 := rfl
    rw [eA, eB, eC]
    have L := lagrange x0 x1 x2 x3 y0 y1 y2 y3
    have s1 := sq_nonneg (x0*y1-x1*y0)
    have s2 := sq_nonneg (x0*y2-x2*y0)
    have s3 := sq_nonneg (x0*y3-x3*y0)
    have s4 := sq_nonneg (x1*y2-x2*y1)
    have s5 := sq_nonneg (x1*y3-x3*y1)
    have s6 := sq_nonneg (x2*y3-x3*y2)
    have hle : (x0 * y0 + x1 * y1 + x2 * y2 + x3 * y3) * (x0 * y0 + x1 * y1 + x2 * y2 + x3 * y3) ≤ (x0 * x0 + x1 * x1 + x2 * x2 + x3 * x3) * (y0 * y0 + y1 * y1 + y2 * y2 + y3 * y3) := by omega
    have := mul_bounds c0 c0
    have := mul_bounds c1 c1
    have := mul_bounds c2 c2
    have := mul_bounds c3 c3
    have := mul_bounds e0 e0
    have := mul_bounds e1 e1
    have := mul_bounds e2 e2
    have := mul_bounds e3 e3
    have := sq_nonneg x0
    have := sq_nonneg x1
    have := sq_nonneg x2
    have := sq_nonneg x3
    have := sq_nonneg y0
    have := sq_nonneg y1
    have := sq_nonneg y2
    have := sq_nonneg y3
    have hpos := sq_nonneg (x0 * y0 + x1 * y1 + x2 * y2 + x3 * y3)
    have hA : 0 ≤ x0 * x0 + x1 * x1 + x2 * x2 + x3 * x3 ∧ x0 * x0 + x1 * x1 + x2 * x2 + x3 * x3 ≤ 40000 := by omega
    have hB : 0 ≤ y0 * y0 + y1 * y1 + y2 * y2 + y3 * y3 ∧ y0 * y0 + y1 * y1 + y2 * y2 + y3 * y3 ≤ 40000 := by omega
    generalize x0 * x0 + x1 * x1 + x2 * x2 + x3 * x3 = A at *
    generalize y0 * y0 + y1 * y1 + y2 * y2 + y3 * y3 = B at *
    generalize x0 * y0 + x1 * y1 + x2 * y2 + x3 * y3 = C at *
    have hm : A * B ≤ 1600000000 := by
      have := Int.mul_le_mul hA.2 hB.2 hB.1 (by omega); omega
    have hm0 : 0 ≤ A * B := Int.mul_nonneg hA.1 hB.1
    rw [w64_id (n := C * C) (by omega) (by omega), w64_id (n := A * B) (by omega) (by omega)]
    simp [hle, hA.1]
end Go.Vs
