/- MoveTo and its laws. -/
import Derived.Test.YtcgkbgidfilodaaVsP5
set_option linter.unusedVariables false
set_option linter.unusedSimpArgs false
namespace Go.Vs

theorem down_eq {n m : Int} (hm : 0 < m) : (if n.tmod m < 0 then n.tdiv m - 1 else n.tdiv m) = n / m := by
  have e := Int.mul_tdiv_add_tmod n m
  have h1 : n.tmod m < m := Int.tmod_lt_of_pos n hm
  have h2 : -m < n.tmod m := by
    have := Int.lt_tmod_of_pos n hm
    omega
  by_cases c : n.tmod m < 0
  · rw [if_pos c]
    have : n = (n.tmod m + m) + (n.tdiv m - 1) * m := by
      rw [Int.sub_mul, Int.mul_comm (n.tdiv m) m]; omega
    conv => rhs; rw [this]
    rw [Int.add_mul_ediv_right _ _ (by omega), Int.ediv_eq_zero_of_lt (by omega) (by omega)]; omega
  · rw [if_neg c]
    have : n = n.tmod m + n.tdiv m * m := by
      rw [Int.mul_comm (n.tdiv m) m]; omega
    conv => rhs; rw [this]
    rw [Int.add_mul_ediv_right _ _ (by omega), Int.ediv_eq_zero_of_lt (by omega) (by omega)]; omega
theorem tdiv_abs {n m : Int} (hm : 0 < m) (h1 : -1000000000 ≤ n) (h2 : n ≤ 1000000000) : -1000000000 ≤ n.tdiv m ∧ n.tdiv m ≤ 1000000000 := by
  rcases Int.le_total 0 n with h | h
  · have := tdiv_range h hm; omega
  · have := tdiv_range (a := -n) (b := m) (by omega) hm
    rw [Int.neg_tdiv] at this; omega
theorem implDown_ok {n m : Int} (hm : 0 < m) (h1 : -1000000000 ≤ n) (h2 : n ≤ 1000000000) : M.impl_divideDown n m = some (n / m) := by
  have t := tdiv_abs hm h1 h2
  unfold M.impl_divideDown
  rw [gquo_ok (by omega), grem_ok (by omega), w64_id (by omega) (by omega)]
  simp only [Option.bind_some]
  rw [← down_eq hm]
  by_cases c : n.tmod m < 0
  · rw [if_pos c, w64_id (by omega) (by omega)]; simp [c]
  · rw [if_neg c]; simp [c]
theorem specDown_ok {n m : Int} (hm : 0 < m) (h1 : -1000000000 ≤ n) (h2 : n ≤ 1000000000) : M.spec_floorDiv n m = some (n / m) := implDown_ok hm h1 h2

/-- A coordinate that moves. -/
def mv (p a b : Int) : Int := a + (b - a) * p / 1000
theorem mv_prod {p a b : Int} (ha : Co a) (hb : Co b) (h0 : 0 ≤ p) (h1 : p ≤ 1000) : (0 ≤ b - a → 0 ≤ (b - a) * p ∧ (b - a) * p ≤ (b - a) * 1000) ∧ (b - a ≤ 0 → (b - a) * 1000 ≤ (b - a) * p ∧ (b - a) * p ≤ 0) := by
  refine ⟨fun h => ⟨Int.mul_nonneg h h0, Int.mul_le_mul_of_nonneg_left h1 h⟩, fun h => ⟨Int.mul_le_mul_of_nonpos_left h h1, ?_⟩⟩
  exact Int.mul_nonpos_of_nonpos_of_nonneg h h0
theorem mv_between {p a b : Int} (ha : Co a) (hb : Co b) (h0 : 0 ≤ p) (h1 : p ≤ 1000) : min a b ≤ mv p a b ∧ mv p a b ≤ max a b := by
  have h := mv_prod ha hb h0 h1
  unfold mv
  rcases Int.le_total 0 (b - a) with c | c
  · have := h.1 c; generalize (b - a) * p = q at *; omega
  · have := h.2 c; generalize (b - a) * p = q at *; omega
theorem mv_co {p a b : Int} (ha : Co a) (hb : Co b) (h0 : 0 ≤ p) (h1 : p ≤ 1000) : Co (mv p a b) := by
  have := mv_between ha hb h0 h1
  unfold Co at *; omega
theorem mv_zero {a b : Int} : mv 0 a b = a := by unfold mv; simp
theorem mv_all {a b : Int} : mv 1000 a b = b := by unfold mv; omega
theorem mv_next {p a b : Int} (ha : Co a) (hb : Co b) (h0 : 0 ≤ p) (h1 : p < 1000) : gap (mv (p + 1) a b) b ≤ gap (mv p a b) b := by
  have hA := mv_between ha hb h0 (show p ≤ 1000 by omega)
  have hB := mv_between ha hb (show 0 ≤ p + 1 by omega) (show p + 1 ≤ 1000 by omega)
  have e : (b - a) * (p + 1) = (b - a) * p + (b - a) := by rw [Int.mul_add, Int.mul_one]
  unfold mv at *
  rw [e] at hB ⊢
  generalize (b - a) * p = q at *
  unfold gap
  rcases Int.le_total a b with c | c
  · have : q / 1000 ≤ (q + (b - a)) / 1000 := by omega
    omega
  · have : (q + (b - a)) / 1000 ≤ q / 1000 := by omega
    omega

/-- What MoveTo answers. -/
def moveTo (a b : List Int) (p : Int) : List Int :=
  if isVec a = true ∧ isVec b = true ∧ 0 ≤ p ∧ p ≤ 1000 then [mv p (a.getD 0 0) (b.getD 0 0), mv p (a.getD 1 0) (b.getD 1 0), mv p (a.getD 2 0) (b.getD 2 0), mv p (a.getD 3 0) (b.getD 3 0)] else []

theorem mv_step {p a b : Int} (ha : Co a) (hb : Co b) (h0 : 0 ≤ p) (h1 : p ≤ 1000) : w64 (w64 (b - a) * p) = (b - a) * p ∧ -1000000000 ≤ (b - a) * p ∧ (b - a) * p ≤ 1000000000 ∧ w64 (a + (b - a) * p / 1000) = mv p a b := by
  have h := mv_prod ha hb h0 h1
  have m := mv_co ha hb h0 h1
  have ha' := ha
  have hb' := hb
  unfold Co at ha' hb'
  have e : w64 (b - a) = b - a := w64_id (by omega) (by omega)
  have hq : -1000000000 ≤ (b - a) * p ∧ (b - a) * p ≤ 1000000000 := by
    rcases Int.le_total 0 (b - a) with c | c
    · have := h.1 c; omega
    · have := h.2 c; omega
  refine ⟨by rw [e]; exact w64_id (by omega) (by omega), hq.1, hq.2, ?_⟩
  unfold Co at m
  have m' : -100 ≤ a + (b - a) * p / 1000 ∧ a + (b - a) * p / 1000 ≤ 100 := m
  rw [w64_id (by omega) (by omega)]; rfl

theorem implMove_ok {a b : List Int} (ha : a.length < 2000000) (hb : b.length < 2000000) (p : Int) : M.impl_MoveTo a b p = some (moveTo a b p) := by
  unfold M.impl_MoveTo
  simp only [impl_valid a ha, Option.bind_some]
  by_cases va : isVec a = true
  · simp only [va, Bool.not_true, cond_false, impl_valid b hb, Option.bind_some]
    by_cases vb : isVec b = true
    · simp only [vb, Bool.not_true, cond_false]
      by_cases h0 : p < 0
      · simp [h0, moveTo]; intro _ _; omega
      · simp only [h0, decide_false, cond_false, Option.bind_some]
        by_cases h1 : 1000 < p
        · simp [h1, moveTo]
        · have h0' : 0 ≤ p := by omega
          have h1' : p ≤ 1000 := by omega
          simp only [h1, decide_false, cond_false, moveTo, va, vb, h0', h1', and_self, if_true]
          obtain ⟨x0, x1, x2, x3, rfl, c0, c1, c2, c3⟩ := isVec_cut va
          obtain ⟨y0, y1, y2, y3, rfl, e0, e1, e2, e3⟩ := isVec_cut vb
          obtain ⟨p0, q0, r0, s0⟩ := mv_step c0 e0 h0' h1'
          obtain ⟨p1, q1, r1, s1⟩ := mv_step c1 e1 h0' h1'
          obtain ⟨p2, q2, r2, s2⟩ := mv_step c2 e2 h0' h1'
          obtain ⟨p3, q3, r3, s3⟩ := mv_step c3 e3 h0' h1'
          rw [loop4 (s1 := ([mv p x0 y0, 0, 0, 0], 1)) (s2 := ([mv p x0 y0, mv p x1 y1, 0, 0], 2)) (s3 := ([mv p x0 y0, mv p x1 y1, mv p x2 y2, 0], 3)) (s4 := ([mv p x0 y0, mv p x1 y1, mv p x2 y2, mv p x3 y3], 4)) (r := [mv p x0 y0, mv p x1 y1, mv p x2 y2, mv p x3 y3])]
          · rfl
          · simp only [show List.replicate 4 (0 : Int) = [0, 0, 0, 0] from rfl, d04, gi0, i01, cond_true, Option.bind_some, p0, implDown_ok (show (0 : Int) < 1000 by omega) q0 r0, s0]; rfl
          · simp only [d14, gi1, i12, cond_true, Option.bind_some, p1, implDown_ok (show (0 : Int) < 1000 by omega) q1 r1, s1]; rfl
          · simp only [d24, gi2, i23, cond_true, Option.bind_some, p2, implDown_ok (show (0 : Int) < 1000 by omega) q2 r2, s2]; rfl
          · simp only [d34, gi3, i34, cond_true, Option.bind_some, p3, implDown_ok (show (0 : Int) < 1000 by omega) q3 r3, s3]; rfl
          · simp only [d44, cond_false]
    · have vb' : isVec b = false := by simpa using vb
      simp [vb', moveTo]
  · have va' : isVec a = false := by simpa using va
    simp [va', moveTo]
theorem specMove_ok {a b : List Int} (ha : a.length < 2000000) (hb : b.length < 2000000) (p : Int) : M.spec_MoveTo a b p = some (moveTo a b p) := by
  unfold M.spec_MoveTo
  simp only [spec_isVec a ha, Option.bind_some]
  by_cases va : isVec a = true
  · simp only [va, Bool.not_true, cond_false, spec_isVec b hb, Option.bind_some]
    by_cases vb : isVec b = true
    · simp only [vb, Bool.not_true, cond_false, spec_inR, Option.bind_some]
      by_cases hp : 0 ≤ p ∧ p ≤ 1000
      · obtain ⟨h0', h1'⟩ := hp
        simp only [decide_true, Bool.and_self, Bool.not_true, cond_false, moveTo, va, vb, h0', h1', and_self, if_true]
        obtain ⟨x0, x1, x2, x3, rfl, c0, c1, c2, c3⟩ := isVec_cut va
        obtain ⟨y0, y1, y2, y3, rfl, e0, e1, e2, e3⟩ := isVec_cut vb
        obtain ⟨p0, q0, r0, s0⟩ := mv_step c0 e0 h0' h1'
        obtain ⟨p1, q1, r1, s1⟩ := mv_step c1 e1 h0' h1'
        obtain ⟨p2, q2, r2, s2⟩ := mv_step c2 e2 h0' h1'
        obtain ⟨p3, q3, r3, s3⟩ := mv_step c3 e3 h0' h1'
        rw [loop4 (s1 := ([mv p x0 y0], 1)) (s2 := ([mv p x0 y0, mv p x1 y1], 2)) (s3 := ([mv p x0 y0, mv p x1 y1, mv p x2 y2], 3)) (s4 := ([mv p x0 y0, mv p x1 y1, mv p x2 y2, mv p x3 y3], 4)) (r := [mv p x0 y0, mv p x1 y1, mv p x2 y2, mv p x3 y3])]
        · rfl
        · simp only [d04, gi0, i01, cond_true, Option.bind_some, p0, specDown_ok (show (0 : Int) < 1000 by omega) q0 r0, s0]; rw [gapp_ok (by simp)]; rfl
        · simp only [d14, gi1, i12, cond_true, Option.bind_some, p1, specDown_ok (show (0 : Int) < 1000 by omega) q1 r1, s1]; rw [gapp_ok (by simp)]; rfl
        · simp only [d24, gi2, i23, cond_true, Option.bind_some, p2, specDown_ok (show (0 : Int) < 1000 by omega) q2 r2, s2]; rw [gapp_ok (by simp)]; rfl
        · simp only [d34, gi3, i34, cond_true, Option.bind_some, p3, specDown_ok (show (0 : Int) < 1000 by omega) q3 r3, s3]; rw [gapp_ok (by simp)]; rfl
        · simp only [d44, cond_false]
      · have e : (decide (0 ≤ p) && decide (p ≤ 1000)) = false := by simp; omega
        simp only [e, moveTo]
        rw [if_neg (fun h => hp h.2.2)]; rfl
    · have vb' : isVec b = false := by simpa using vb
      simp [vb', moveTo]
  · have va' : isVec a = false := by simpa using va
    simp [va', moveTo]

theorem drawMoveTo_ok (code : List UInt8) : ∃ a b p, M.spec_DrawMoveTo code = some (a, b, p) ∧ Near a ∧ Near b ∧ -1 ≤ p ∧ p ≤ 1001 := by
  obtain ⟨r, h, g⟩ := newReader_ok code
  obtain ⟨v, r2, h2, g2, n⟩ := any_ok (by omega) g
  obtain ⟨u, r3, h3, g3, n'⟩ := any_ok (by omega) g2
  obtain ⟨x, r4, h4, g4, m⟩ := one_ok (by omega) g3 (list := [0, 500, 1000, 333, 1, 1001, -1]) (by simp)
  refine ⟨v, u, x, by unfold M.spec_DrawMoveTo; simp only [h, h2, h3, h4, Option.bind_some], n, n', ?_⟩
  simp only [List.mem_cons, List.not_mem_nil, or_false] at m
  omega
theorem moveTo_len {a b : List Int} {p : Int} : (moveTo a b p).length < 2000000 := by unfold moveTo; split <;> simp
theorem moveTo_nil {a b : List Int} {p : Int} : moveTo a b p = [] ∨ (isVec a = true ∧ isVec b = true ∧ 0 ≤ p ∧ p ≤ 1000) := by
  unfold moveTo; split
  · rename_i h; exact .inr h
  · exact .inl rfl
theorem moveTo_vec {p x0 x1 x2 x3 y0 y1 y2 y3 : Int} (va : isVec [x0, x1, x2, x3] = true) (vb : isVec [y0, y1, y2, y3] = true) (h0 : 0 ≤ p) (h1 : p ≤ 1000) : moveTo [x0, x1, x2, x3] [y0, y1, y2, y3] p = [mv p x0 y0, mv p x1 y1, mv p x2 y2, mv p x3 y3] := by
  unfold moveTo; rw [if_pos ⟨va, vb, h0, h1⟩]; rfl

theorem law_MoveTo (code : List UInt8) : M.laws_FnMoveTo code = some true := by
  obtain ⟨a, b, p, h, na, nb, hp⟩ := drawMoveTo_ok code
  have la : a.length < 2000000 := by have := na.1; omega
  have lb : b.length < 2000000 := by have := nb.1; omega
  unfold M.laws_FnMoveTo
  by_cases hc : 1048576 < (code.length : Int)
  · simp [hc]
  simp only [hc, decide_false, cond_false, h, Option.bind_some, implMove_ok la lb, specMove_ok la lb, equalInts_ok moveTo_len, decide_true, Bool.not_true]
  rcases moveTo_nil (a := a) (b := b) (p := p) with hn | ⟨va, vb, h0, h1⟩
  · simp [hn]
  · obtain ⟨x0, x1, x2, x3, rfl, c0, c1, c2, c3⟩ := isVec_cut va
    obtain ⟨y0, y1, y2, y3, rfl, e0, e1, e2, e3⟩ := isVec_cut vb
    rw [moveTo_vec va vb h0 h1, moveTo_vec va vb (p := 0) (by omega) (by omega), moveTo_vec va vb (p := 1000) (by omega) (by omega)]
    simp only [l4, show ((4 : Int) == 0) = false from rfl, cond_false, mv_zero, mv_all, decide_true, cond_true]
    have key : ∀ {x y : Int}, Co x → Co y → decide (mv p x y < min x y) = false ∧ decide (max x y < mv p x y) = false := by
      intro x y hx hy
      have := mv_between hx hy h0 h1
      constructor
      · rw [decide_eq_false_iff_not]; omega
      · rw [decide_eq_false_iff_not]; omega
    have k0 := key c0 e0
    have k1 := key c1 e1
    have k2 := key c2 e2
    have k3 := key c3 e3
    rw [loop4 (s1 := 1) (s2 := 2) (s3 := 3) (s4 := 4) (r := .inl ())]
    · rfl
    · simp only [d04, gi0, i01, cond_true, Option.bind_some, k0.1, k0.2, cond_false]
    · simp only [d14, gi1, i12, cond_true, Option.bind_some, k1.1, k1.2, cond_false]
    · simp only [d24, gi2, i23, cond_true, Option.bind_some, k2.1, k2.2, cond_false]
    · simp only [d34, gi3, i34, cond_true, Option.bind_some, k3.1, k3.2, cond_false]
    · simp only [d44, cond_false]

theorem isVec_mk {a b c d : Int} (ha : Co a) (hb : Co b) (hc : Co c) (hd : Co d) : isVec [a, b, c, d] = true := by
  rw [isVec_iff]
  refine ⟨rfl, ?_⟩
  simp only [List.mem_cons, List.not_mem_nil, or_false]
  rintro x (rfl | rfl | rfl | rfl)
  · exact ha
  · exact hb
  · exact hc
  · exact hd

theorem law_MoveToNearer (code : List UInt8) : M.laws_FnMoveToNearer code = some true := by
  obtain ⟨a, b, p, h, na, nb, hp⟩ := drawMoveTo_ok code
  have la : a.length < 2000000 := by have := na.1; omega
  have lb : b.length < 2000000 := by have := nb.1; omega
  unfold M.laws_FnMoveToNearer
  by_cases hc : 1048576 < (code.length : Int)
  · simp [hc]
  simp only [hc, decide_false, cond_false, h, Option.bind_some, implMove_ok la lb, specMove_ok la lb, equalInts_ok moveTo_len, decide_true, Bool.not_true, implDistance_ok _ moveTo_len lb]
  rcases moveTo_nil (a := a) (b := b) (p := p) with hn | ⟨va, vb, h0, h1⟩
  · simp [hn]
  · by_cases hp1 : p = 1000
    · have : (p == 1000) = true := by simpa using hp1
      simp only [this]
      cases ((moveTo a b p).length : Int) == 0 <;> simp
    · have hb1 : (p == 1000) = false := by simpa using hp1
      have ew : w64 (p + 1) = p + 1 := w64_id (by omega) (by omega)
      simp only [hb1, ew]
      obtain ⟨x0, x1, x2, x3, rfl, c0, c1, c2, c3⟩ := isVec_cut va
      obtain ⟨y0, y1, y2, y3, rfl, e0, e1, e2, e3⟩ := isVec_cut vb
      have h0' : 0 ≤ p + 1 := by omega
      have h1' : p + 1 ≤ 1000 := by omega
      rw [moveTo_vec va vb h0 h1, moveTo_vec va vb h0' h1']
      have vm := isVec_mk (mv_co c0 e0 h0 h1) (mv_co c1 e1 h0 h1) (mv_co c2 e2 h0 h1) (mv_co c3 e3 h0 h1)
      have vm' := isVec_mk (mv_co c0 e0 h0' h1') (mv_co c1 e1 h0' h1') (mv_co c2 e2 h0' h1') (mv_co c3 e3 h0' h1')
      rw [dist_vec vm vb, dist_vec vm' vb]
      simp only [l4, show ((4 : Int) == 0) = false from rfl, cond_false, Option.bind_some]
      have n0 := mv_next c0 e0 h0 (by omega)
      have n1 := mv_next c1 e1 h0 (by omega)
      have n2 := mv_next c2 e2 h0 (by omega)
      have n3 := mv_next c3 e3 h0 (by omega)
      have G := gaps_of (mv_co c0 e0 h0 h1) (mv_co c1 e1 h0 h1) (mv_co c2 e2 h0 h1) (mv_co c3 e3 h0 h1) e0 e1 e2 e3
      have r := dk_range (k := 2) G
      rw [w64_id (by omega) (by omega)]
      have t : dk 2 (gap (mv (p + 1) x0 y0) y0) (gap (mv (p + 1) x1 y1) y1) (gap (mv (p + 1) x2 y2) y2) (gap (mv (p + 1) x3 y3) y3) ≤ dk 2 (gap (mv p x0 y0) y0) (gap (mv p x1 y1) y1) (gap (mv p x2 y2) y2) (gap (mv p x3 y3) y3) := by
        show max (max (max (max 0 _) _) _) _ ≤ max (max (max (max 0 _) _) _) _
        omega
      have t' : dk 2 (gap (mv (p + 1) x0 y0) y0) (gap (mv (p + 1) x1 y1) y1) (gap (mv (p + 1) x2 y2) y2) (gap (mv (p + 1) x3 y3) y3) ≤ dk 2 (gap (mv p x0 y0) y0) (gap (mv p x1 y1) y1) (gap (mv p x2 y2) y2) (gap (mv p x3 y3) y3) + 1 := by omega
      simp [t']
end Go.Vs
