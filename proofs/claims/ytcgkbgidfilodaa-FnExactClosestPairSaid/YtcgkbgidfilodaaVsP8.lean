/- Laws on shifted, negated, reversed vectors. -/
import Derived.Test.YtcgkbgidfilodaaVsP7
set_option linter.unusedVariables false
set_option linter.unusedSimpArgs false
namespace Go.Vs

theorem law_MoveToSame (code : List UInt8) : M.laws_FnMoveToSame code = some true := by
  obtain ⟨a, b, p, h, na, nb, hp⟩ := drawMoveTo_ok code
  have la : a.length < 2000000 := by have := na.1; omega
  have lb : b.length < 2000000 := by have := nb.1; omega
  unfold M.laws_FnMoveToSame
  by_cases hc : 1048576 < (code.length : Int)
  · simp [hc]
  simp only [hc, decide_false, cond_false, h, Option.bind_some, implMove_ok la lb, implMove_ok la la, specMove_ok la lb, equalInts_ok moveTo_len, decide_true, Bool.not_true, impl_valid _ moveTo_len]
  rcases moveTo_nil (a := a) (b := b) (p := p) with hn | ⟨va, vb, h0, h1⟩
  · simp [hn]
  · obtain ⟨x0, x1, x2, x3, rfl, c0, c1, c2, c3⟩ := isVec_cut va
    obtain ⟨y0, y1, y2, y3, rfl, e0, e1, e2, e3⟩ := isVec_cut vb
    have vm := isVec_mk (mv_co c0 e0 h0 h1) (mv_co c1 e1 h0 h1) (mv_co c2 e2 h0 h1) (mv_co c3 e3 h0 h1)
    have ms : ∀ x, mv p x x = x := by intro x; unfold mv; simp
    rw [moveTo_vec va vb h0 h1, moveTo_vec va va h0 h1, vm]
    simp only [ms, l4, show ((4 : Int) == 0) = false from rfl, cond_false, decide_true, cond_true, Option.bind_some]

theorem law_DotOfZero (code : List UInt8) : M.laws_FnDotOfZero code = some true := by
  obtain ⟨a, b, h, na, nb⟩ := drawDotOf_ok code
  have la : a.length < 2000000 := by have := na.1; omega
  have lb : b.length < 2000000 := by have := nb.1; omega
  have lz : ([0, 0, 0, 0] : List Int).length < 2000000 := by simp
  have hz : (gmake 4 (0 : Int)) = some [0, 0, 0, 0] := by rw [gmake_ok (by omega) (by omega)]; rfl
  unfold M.laws_FnDotOfZero
  by_cases hc : 1048576 < (code.length : Int)
  · simp [hc]
  simp only [hc, decide_false, cond_false, h, Option.bind_some, implDot_ok la lb, specDot_ok la lb, bne_self_eq_false, BEq.rfl, cond_true, hz, implDot_ok la lz]
  rcases dotOf_false (a := a) (b := b) with hn | ⟨va, vb⟩
  · simp [hn]
  · simp only [dotOf_vec va vb, Bool.not_true, cond_false, Option.bind_some]
    obtain ⟨x0, x1, x2, x3, rfl, c0, c1, c2, c3⟩ := isVec_cut va
    obtain ⟨y0, y1, y2, y3, rfl, e0, e1, e2, e3⟩ := isVec_cut vb
    have ng : ∀ y, Co y → w64 (0 - y) = -y := by
      intro y hy; unfold Co at hy; rw [w64_id (by omega) (by omega)]; omega
    rw [loop4 (s1 := ([-y0], 1)) (s2 := ([-y0, -y1], 2)) (s3 := ([-y0, -y1, -y2], 3)) (s4 := ([-y0, -y1, -y2, -y3], 4)) (r := [-y0, -y1, -y2, -y3])]
    · have vn : isVec [-y0, -y1, -y2, -y3] = true := by unfold Co at e0 e1 e2 e3; exact isVec_mk (by unfold Co; omega) (by unfold Co; omega) (by unfold Co; omega) (by unfold Co; omega)
      have ln : ([-y0, -y1, -y2, -y3] : List Int).length < 2000000 := by simp
      simp only [Option.bind_some, implDot_ok la ln, dotOf_vec va vn, dotOf_vec va isVec_zero, cond_true]
      have eC : dotv [x0, x1, x2, x3] [y0, y1, y2, y3] = x0 * y0 + x1 * y1 + x2 * y2 + x3 * y3 := rfl
      have eN : dotv [x0, x1, x2, x3] [-y0, -y1, -y2, -y3] = -(x0 * y0 + x1 * y1 + x2 * y2 + x3 * y3) := by
        show x0 * -y0 + x1 * -y1 + x2 * -y2 + x3 * -y3 = _
        grind
      have eZ : dotv [x0, x1, x2, x3] [0, 0, 0, 0] = 0 := by
        show x0 * 0 + x1 * 0 + x2 * 0 + x3 * 0 = 0
        simp
      rw [eC, eN, eZ]
      have := mul_bounds c0 e0
      have := mul_bounds c1 e1
      have := mul_bounds c2 e2
      have := mul_bounds c3 e3
      rw [w64_id (by omega) (by omega)]
      simp only [BEq.rfl, cond_true, Option.some.injEq, beq_iff_eq]
      omega
    · simp only [l4, d04, gi0, i01, cond_true, Option.bind_some, ng y0 e0]; rw [gapp_ok (by simp)]; rfl
    · simp only [l4, d14, gi1, i12, cond_true, Option.bind_some, ng y1 e1]; rw [gapp_ok (by simp)]; rfl
    · simp only [l4, d24, gi2, i23, cond_true, Option.bind_some, ng y2 e2]; rw [gapp_ok (by simp)]; rfl
    · simp only [l4, d34, gi3, i34, cond_true, Option.bind_some, ng y3 e3]; rw [gapp_ok (by simp)]; rfl
    · simp only [l4, d44, cond_false]

theorem law_DistanceShift (code : List UInt8) : M.laws_FnDistanceShift code = some true := by
  obtain ⟨k, a, b, h, na, nb⟩ := drawDistance_ok code
  have la : a.length < 2000000 := by have := na.1; omega
  have lb : b.length < 2000000 := by have := nb.1; omega
  unfold M.laws_FnDistanceShift
  by_cases hc : 1048576 < (code.length : Int)
  · simp [hc]
  simp only [hc, decide_false, cond_false, h, Option.bind_some, implDistance_ok k la lb, specDistance_ok k la lb, bne_self_eq_false, BEq.rfl]
  rcases dist_neg (k := k) (a := a) (b := b) with hn | ⟨va, vb, hp⟩
  · simp [hn]
  · have e : decide (dist k a b < 0) = false := by simpa using hp
    simp only [e, cond_false]
    obtain ⟨x0, x1, x2, x3, rfl, c0, c1, c2, c3⟩ := isVec_cut va
    obtain ⟨y0, y1, y2, y3, rfl, e0, e1, e2, e3⟩ := isVec_cut vb
    have w : ∀ x i : Int, Co x → 0 ≤ i → i ≤ 4 → w64 (w64 (x + i) - 1) = x + i - 1 := by
      intro x i hx h0 h1; unfold Co at hx
      rw [w64_id (n := x + i) (by omega) (by omega), w64_id (by omega) (by omega)]
    rw [loop4 (s1 := ([x0 + 0 - 1], [y0 + 0 - 1], 1)) (s2 := ([x0 + 0 - 1, x1 + 1 - 1], [y0 + 0 - 1, y1 + 1 - 1], 2)) (s3 := ([x0 + 0 - 1, x1 + 1 - 1, x2 + 2 - 1], [y0 + 0 - 1, y1 + 1 - 1, y2 + 2 - 1], 3)) (s4 := ([x0 + 0 - 1, x1 + 1 - 1, x2 + 2 - 1, x3 + 3 - 1], [y0 + 0 - 1, y1 + 1 - 1, y2 + 2 - 1, y3 + 3 - 1], 4)) (r := ([x0 + 0 - 1, x1 + 1 - 1, x2 + 2 - 1, x3 + 3 - 1], [y0 + 0 - 1, y1 + 1 - 1, y2 + 2 - 1, y3 + 3 - 1]))]
    · simp only [Option.bind_some]
      rw [impl_valid _ (by simp), impl_valid _ (by simp), implDistance_ok k (by simp) (by simp)]
      simp only [Option.bind_some]
      by_cases v1 : isVec [x0 + 0 - 1, x1 + 1 - 1, x2 + 2 - 1, x3 + 3 - 1] = true
      · by_cases v2 : isVec [y0 + 0 - 1, y1 + 1 - 1, y2 + 2 - 1, y3 + 3 - 1] = true
        · rw [dist_vec va vb, dist_vec v1 v2]
          have g : ∀ x y i : Int, gap (x + i - 1) (y + i - 1) = gap x y := by intro x y i; unfold gap; omega
          simp only [v1, v2, Bool.not_true, cond_false, g, BEq.rfl]
        · simp only [Bool.not_eq_true] at v2
          simp only [v1, v2, Bool.not_true, Bool.not_false, cond_false, cond_true]
      · simp only [Bool.not_eq_true] at v1
        simp only [v1, Bool.not_false, cond_true]
    · simp only [l4, d04, gi0, i01, cond_true, Option.bind_some, w x0 0 c0 (by omega) (by omega), w y0 0 e0 (by omega) (by omega)]; rw [gapp_ok (by simp)]; simp only [Option.bind_some]; rw [gapp_ok (by simp)]; rfl
    · simp only [l4, d14, gi1, i12, cond_true, Option.bind_some, w x1 1 c1 (by omega) (by omega), w y1 1 e1 (by omega) (by omega)]; rw [gapp_ok (by simp)]; simp only [Option.bind_some]; rw [gapp_ok (by simp)]; rfl
    · simp only [l4, d24, gi2, i23, cond_true, Option.bind_some, w x2 2 c2 (by omega) (by omega), w y2 2 e2 (by omega) (by omega)]; rw [gapp_ok (by simp)]; simp only [Option.bind_some]; rw [gapp_ok (by simp)]; rfl
    · simp only [l4, d34, gi3, i34, cond_true, Option.bind_some, w x3 3 c3 (by omega) (by omega), w y3 3 e3 (by omega) (by omega)]; rw [gapp_ok (by simp)]; simp only [Option.bind_some]; rw [gapp_ok (by simp)]; rfl
    · simp only [l4, d44, cond_false]

theorem sumAt_reverse {j : Nat} {l : List (List Int)} : sumAt j l.reverse = sumAt j l := by
  unfold sumAt; rw [List.map_reverse, List.sum_reverse]
theorem meanOf_reverse {l : List (List Int)} : meanOf l.reverse = meanOf l := by
  unfold meanOf; simp only [List.length_reverse, List.all_reverse, sumAt_reverse]

theorem law_MeanOfOrder (code : List UInt8) : M.laws_FnMeanOfOrder code = some true := by
  obtain ⟨l, h, hL, hn⟩ := drawMeanOf_ok code
  have hb : ∀ v ∈ l, v.length < 2000000 := fun v hv => by have := (hn v hv).1; omega
  have hb' : ∀ v ∈ l.reverse, v.length < 2000000 := fun v hv => hb v (by simpa using hv)
  unfold M.laws_FnMeanOfOrder
  by_cases hc : 1048576 < (code.length : Int)
  · simp [hc]
  simp only [hc, decide_false, cond_false, h, Option.bind_some, implMean_ok hb, specMeanOf_ok hb (by omega), equalInts_ok meanOf_len, decide_true, Bool.not_true]
  have hloop := loop_run (R := List (List Int)) (f := fun (s76 : (List (List Int)) × (Int)) => (bif decide (0 ≤ s76.2) then
  (gidx l s76.2).bind fun x88 =>
  (gapp s76.1 ([x88] : List (List Int))).bind fun xs106 =>
  some (.inl (xs106, w64 (s76.2 - 1)))
 else
  some (.inr s76.1))) (r := l.reverse) l.length (fun i => (l.reverse.take i, (l.length : Int) - 1 - i)) (by
    intro i hi
    have e0 : (l.length : Int) - 1 - i = ((l.length - 1 - i : Nat) : Int) := by omega
    have e1 : decide (0 ≤ (l.length : Int) - 1 - i) = true := by simp; omega
    have e2 : w64 ((l.length : Int) - 1 - i - 1) = (l.length : Int) - 1 - ((i + 1 : Nat) : Int) := by rw [w64_id (by omega) (by omega)]; omega
    simp only [e1, cond_true, e2]
    rw [e0, gidx_nat (show l.length - 1 - i < l.length by omega)]
    simp only [Option.bind_some]
    rw [gapp_ok (by simp; omega)]
    simp only [Option.bind_some]
    have hr : i < l.reverse.length := by simpa using hi
    rw [List.take_succ_eq_append_getElem hr, List.getElem_reverse]) (by
    have e1 : decide (0 ≤ (l.length : Int) - 1 - (l.length : Int)) = false := by simp; omega
    simp only [e1, cond_false]
    rw [show l.length = l.reverse.length by simp, List.take_length])
  have hw : w64 ((l.length : Int) - 1) = (l.length : Int) - 1 := w64_id (by omega) (by omega)
  simp only [List.take_zero, Int.cast_ofNat_Int, Int.sub_zero] at hloop
  rw [hw, hloop]
  simp only [Option.bind_some, implMean_ok hb', meanOf_reverse, equalInts_ok meanOf_len, decide_true]
end Go.Vs
