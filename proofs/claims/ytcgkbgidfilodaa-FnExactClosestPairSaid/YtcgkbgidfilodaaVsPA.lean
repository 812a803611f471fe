/- One changed coordinate. -/
import Derived.Test.YtcgkbgidfilodaaVsP9
import Derived.Test.YtcgkbgidfilodaaLibM4
set_option linter.unusedVariables false
set_option linter.unusedSimpArgs false
namespace Go.Vs

theorem gap_self (x : Int) : gap x x = 0 := by unfold gap; omega
theorem one_changed {a c : List Int} (la : a.length < 2000000) (lc : c.length < 2000000) {g : Int} (hg : 0 ≤ g ∧ g ≤ 200)
    (h1 : dist 1 a c = g) (h2 : dist 2 a c = g) (h3 : dist 3 a c = g * g) (h4 : dist 4 a c = min g 1) :
    ((M.impl_Distance 1 a c).bind fun r116 =>
  (M.impl_Distance 2 a c).bind fun r135 =>
  (bif r116 == r135 then
  (M.impl_Distance 3 a c).bind fun r155 =>
  (bif (w64 (r116 * r116)) == r155 then
  (M.impl_Distance 4 a c).bind fun r177 =>
  some (r177 == (min r116 1))
 else
  some false)
 else
  some false)) = some true := by
  have s := sq_bounds hg.1 hg.2
  simp only [implDistance_ok _ la lc, h1, h2, h3, h4, Option.bind_some, BEq.rfl, cond_true]
  rw [w64_id (by omega) (by omega)]
  simp

theorem law_DistanceOne (code : List UInt8) : M.laws_FnDistanceOne code = some true := by
  obtain ⟨k, a, b, h, na, nb⟩ := drawDistance_ok code
  have la : a.length < 2000000 := by have := na.1; omega
  have lb : b.length < 2000000 := by have := nb.1; omega
  unfold M.laws_FnDistanceOne
  by_cases hc : 1048576 < (code.length : Int)
  · simp [hc]
  simp only [hc, decide_false, cond_false, h, Option.bind_some, implDistance_ok k la lb, specDistance_ok k la lb, bne_self_eq_false, BEq.rfl]
  rcases dist_neg (k := k) (a := a) (b := b) with hn | ⟨va, vb, hp⟩
  · simp [hn]
  · have e : decide (dist k a b < 0) = false := by simpa using hp
    simp only [e, cond_false]
    obtain ⟨x0, x1, x2, x3, rfl, c0, c1, c2, c3⟩ := isVec_cut va
    obtain ⟨y0, y1, y2, y3, rfl, e0, e1, e2, e3⟩ := isVec_cut vb
    rw [gapp_ok (by simp)]
    simp only [List.nil_append, Option.bind_some]
    have hk := tmod_range (a := (code.length : Int)) (b := 4) (by omega) (by omega)
    generalize (code.length : Int).tmod 4 = t at *
    have ht : t = 0 ∨ t = 1 ∨ t = 2 ∨ t = 3 := by omega
    rcases ht with rfl | rfl | rfl | rfl
    · simp only [gi0, Option.bind_some]
      have vc := isVec_mk e0 c1 c2 c3
      refine one_changed (g := gap x0 y0) la (by simp) ⟨gap_nonneg _ _, gap_le c0 e0⟩ ?_ ?_ ?_ ?_ <;> refine (dist_vec va vc).trans ?_ <;> have gn := gap_nonneg x0 y0 <;> simp only [gap_self]
      · show gap x0 y0 + 0 + 0 + 0 = _; omega
      · show max (max (max (max 0 (gap x0 y0)) 0) 0) 0 = _; omega
      · show gap x0 y0 * gap x0 y0 + 0 * 0 + 0 * 0 + 0 * 0 = _; omega
      · show min (gap x0 y0) 1 + min 0 1 + min 0 1 + min 0 1 = _; omega
    · simp only [gi1, Option.bind_some]
      have vc := isVec_mk c0 e1 c2 c3
      refine one_changed (g := gap x1 y1) la (by simp) ⟨gap_nonneg _ _, gap_le c1 e1⟩ ?_ ?_ ?_ ?_ <;> refine (dist_vec va vc).trans ?_ <;> have gn := gap_nonneg x1 y1 <;> simp only [gap_self]
      · show 0 + gap x1 y1 + 0 + 0 = _; omega
      · show max (max (max (max 0 0) (gap x1 y1)) 0) 0 = _; omega
      · show 0 * 0 + gap x1 y1 * gap x1 y1 + 0 * 0 + 0 * 0 = _; omega
      · show min 0 1 + min (gap x1 y1) 1 + min 0 1 + min 0 1 = _; omega
    · simp only [gi2, Option.bind_some]
      have vc := isVec_mk c0 c1 e2 c3
      refine one_changed (g := gap x2 y2) la (by simp) ⟨gap_nonneg _ _, gap_le c2 e2⟩ ?_ ?_ ?_ ?_ <;> refine (dist_vec va vc).trans ?_ <;> have gn := gap_nonneg x2 y2 <;> simp only [gap_self]
      · show 0 + 0 + gap x2 y2 + 0 = _; omega
      · show max (max (max (max 0 0) 0) (gap x2 y2)) 0 = _; omega
      · show 0 * 0 + 0 * 0 + gap x2 y2 * gap x2 y2 + 0 * 0 = _; omega
      · show min 0 1 + min 0 1 + min (gap x2 y2) 1 + min 0 1 = _; omega
    · simp only [gi3, Option.bind_some]
      have vc := isVec_mk c0 c1 c2 e3
      refine one_changed (g := gap x3 y3) la (by simp) ⟨gap_nonneg _ _, gap_le c3 e3⟩ ?_ ?_ ?_ ?_ <;> refine (dist_vec va vc).trans ?_ <;> have gn := gap_nonneg x3 y3 <;> simp only [gap_self]
      · show 0 + 0 + 0 + gap x3 y3 = _; omega
      · show max (max (max (max 0 0) 0) 0) (gap x3 y3) = _; omega
      · show 0 * 0 + 0 * 0 + 0 * 0 + gap x3 y3 * gap x3 y3 = _; omega
      · show min 0 1 + min 0 1 + min 0 1 + min (gap x3 y3) 1 = _; omega
end Go.Vs
