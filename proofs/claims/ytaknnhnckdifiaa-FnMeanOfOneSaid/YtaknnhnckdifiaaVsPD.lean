/- The mean of one vector. -/
import Derived.Test.YtaknnhnckdifiaaVsPC
import Derived.Test.YtaknnhnckdifiaaLibM5
set_option linter.unusedVariables false
set_option linter.unusedSimpArgs false
namespace Go.Vs

theorem meanOf_same {v : List Int} (hv : isVec v = true) {l : List (List Int)} (h1 : 1 ≤ l.length) (h2 : l.length ≤ 16) (hall : ∀ u ∈ l, u = v) : meanOf l = v := by
  have hv' : l.all isVec = true := by
    rw [List.all_eq_true]; intro u hu; rw [hall u hu]; exact hv
  have hj : ∀ j, j < 4 → sumAt j l / l.length = v.getD j 0 := by
    intro j _
    have b := mean_between (j := j) (a := v.getD j 0) (b := v.getD j 0) h1 (fun u hu => by rw [hall u hu]; omega)
    omega
  unfold meanOf
  rw [if_pos ⟨⟨h1, h2⟩, hv'⟩, hj 0 (by omega), hj 1 (by omega), hj 2 (by omega), hj 3 (by omega)]
  obtain ⟨a, b, c, d, rfl, _⟩ := isVec_cut hv
  rfl

theorem law_MeanOfOne (code : List UInt8) : M.laws_FnMeanOfOne code = some true := by
  obtain ⟨l, h, hL, hn⟩ := drawMeanOf_ok code
  have hb : ∀ v ∈ l, v.length < 2000000 := fun v hv => by have := (hn v hv).1; omega
  unfold M.laws_FnMeanOfOne
  by_cases hc : 1048576 < (code.length : Int)
  · simp [hc]
  simp only [hc, decide_false, cond_false, h, Option.bind_some, implMean_ok hb, specMeanOf_ok hb (by omega), equalInts_ok meanOf_len, decide_true, Bool.not_true]
  rcases meanOf_nil (l := l) with hnil | ⟨hr, hv⟩
  · simp [hnil]
  · have em : ((meanOf l).length : Int) = 4 := by unfold meanOf; rw [if_pos ⟨hr, by simpa using hv⟩]; rfl
    simp only [em, show ((4 : Int) == 0) = false from rfl, cond_false]
    obtain ⟨v0, l0, rfl⟩ : ∃ v0 l0, l = v0 :: l0 := by
      match l, hr.1 with
      | v :: l, _ => exact ⟨v, l, rfl⟩
    have hv0 := hv v0 (by simp)
    have hl0 := (isVec_iff.1 hv0).1
    have g1 : gslice (v0 :: l0) 0 1 = some [v0] := by
      rw [gslice_ok (by omega) (by omega) (by simp; omega)]; rfl
    have m1 : M.impl_MeanOf [v0] = some v0 := by
      rw [implMean_ok (by intro v h; simp only [List.mem_singleton] at h; subst h; omega), meanOf_same hv0 (by simp) (by simp) (by intro u h; simpa using h)]
    have m3 : M.impl_MeanOf [v0, v0, v0] = some v0 := by
      rw [implMean_ok (by intro v h; simp only [List.mem_cons, List.not_mem_nil, or_false, or_self] at h; subst h; omega), meanOf_same hv0 (by simp) (by simp) (by intro u h; simpa using h)]
    simp only [g1, Option.bind_some, m1, gi0 (a := v0), m3, equalInts_ok (show v0.length < 2000000 by omega), decide_true, cond_true]
end Go.Vs
