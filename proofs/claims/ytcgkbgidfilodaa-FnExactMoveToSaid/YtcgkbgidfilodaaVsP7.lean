/- MeanOf and its laws. -/
import Derived.Test.YtcgkbgidfilodaaVsP6
set_option linter.unusedVariables false
set_option linter.unusedSimpArgs false
namespace Go.Vs

theorem gidx_getD {v : List Int} {j : Nat} (h : j < v.length) : gidx v (j : Int) = some (v.getD j 0) := by
  rw [gidx_nat h]; simp [List.getD, h]
/-- The sum of a coordinate. -/
def sumAt (j : Nat) (l : List (List Int)) : Int := (l.map fun v => v.getD j 0).sum
theorem sumAt_next {j : Nat} {l : List (List Int)} {i : Nat} (h : i < l.length) : sumAt j (l.take (i + 1)) = sumAt j (l.take i) + l[i].getD j 0 := by
  unfold sumAt; rw [List.take_succ_eq_append_getElem h, List.map_append, List.sum_append]; simp
theorem sumAt_bounds {j : Nat} {l : List (List Int)} {a b : Int} (h : ∀ v ∈ l, a ≤ v.getD j 0 ∧ v.getD j 0 ≤ b) : a * l.length ≤ sumAt j l ∧ sumAt j l ≤ b * l.length := by
  induction l with
  | nil => simp [sumAt]
  | cons v l ih =>
    have h1 := h v (by simp)
    have h2 := ih (fun u hu => h u (by simp [hu]))
    have e : sumAt j (v :: l) = v.getD j 0 + sumAt j l := by simp [sumAt]
    rw [e]
    simp only [List.length_cons, Int.natCast_add, Int.cast_ofNat_Int, Int.mul_add, Int.mul_one]
    omega
theorem vec_co {v : List Int} (h : isVec v = true) {j : Nat} (hj : j < 4) : Co (v.getD j 0) := by
  obtain ⟨a, b, c, d, rfl, ha, hb, hc, hd⟩ := isVec_cut h
  match j, hj with
  | 0, _ => exact ha
  | 1, _ => exact hb
  | 2, _ => exact hc
  | 3, _ => exact hd
theorem sumAt_take {l : List (List Int)} {i : Nat} (h : ∀ v ∈ l.take i, isVec v = true) (hi : i ≤ 20) {j : Nat} (hj : j < 4) : -2000 ≤ sumAt j (l.take i) ∧ sumAt j (l.take i) ≤ 2000 := by
  have := sumAt_bounds (j := j) (l := l.take i) (a := -100) (b := 100) (fun v hv => vec_co (h v hv) hj)
  have hl : (l.take i).length ≤ 20 := by simp; omega
  omega

/-- A loop that goes over a list, and leaves at an element that fails. -/
theorem loop_scan {S α R T : Type} {xs : List α} {P : α → Bool} {st : Nat → S} {t : T} {r : R} {f : S × Int → Option ((S × Int) ⊕ (T ⊕ R))}
    (hs : ∀ i (h : i < xs.length), (∀ x ∈ xs.take i, P x = true) → P xs[i] = true → f (st i, (i : Int)) = some (.inl (st (i + 1), (i : Int) + 1)))
    (hb : ∀ i (h : i < xs.length), (∀ x ∈ xs.take i, P x = true) → P xs[i] = false → f (st i, (i : Int)) = some (.inr (.inr r)))
    (he : (∀ x ∈ xs, P x = true) → f (st xs.length, (xs.length : Int)) = some (.inr (.inl t))) :
    loopM f (st 0, 0) = some (if xs.all P then .inl t else .inr r) := by
  have key : ∀ m k : Nat, k + m = xs.length → (∀ x ∈ xs.take k, P x = true) → loopM f (st k, (k : Int)) = some (if (xs.drop k).all P then .inl t else .inr r) := by
    intro m
    induction m with
    | zero =>
      intro k hk hp
      have : k = xs.length := by omega
      subst this
      rw [List.take_length] at hp
      rw [loopM_eq, he hp]; simp [selim]
    | succ m ih =>
      intro k hk hpre
      have hlt : k < xs.length := by omega
      rw [loopM_eq, List.drop_eq_getElem_cons hlt]
      by_cases hp : P xs[k] = true
      · rw [hs k hlt hpre hp]
        have := ih (k + 1) (by omega) (by
          intro x hx
          rw [List.take_succ_eq_append_getElem hlt] at hx
          rcases List.mem_append.1 hx with h | h
          · exact hpre x h
          · simp only [List.mem_singleton] at h; subst h; exact hp)
        simp only [Int.natCast_add, Int.cast_ofNat_Int] at this
        simp only [List.all_cons, hp, Bool.true_and, selim, this, Option.bind_some]
      · simp only [Bool.not_eq_true] at hp
        rw [hb k hlt hpre hp]
        simp only [List.all_cons, hp, Bool.false_and, selim, Option.bind_some]; rfl
  have := key xs.length 0 (by omega) (by simp)
  simpa using this

/-- What MeanOf answers. -/
def meanOf (l : List (List Int)) : List Int :=
  if (1 ≤ l.length ∧ l.length ≤ 16) ∧ l.all isVec = true then [sumAt 0 l / l.length, sumAt 1 l / l.length, sumAt 2 l / l.length, sumAt 3 l / l.length] else []

theorem implMean_ok {l : List (List Int)} (hb : ∀ v ∈ l, v.length < 2000000) : M.impl_MeanOf l = some (meanOf l) := by
  unfold M.impl_MeanOf
  by_cases h1 : (l.length : Int) < 1
  · have : ¬ (1 ≤ l.length ∧ l.length ≤ 16) := by omega
    simp [h1, meanOf, this]
  by_cases h2 : 16 < (l.length : Int)
  · have : ¬ (1 ≤ l.length ∧ l.length ≤ 16) := by omega
    simp [h1, h2, meanOf, this]
  have hr : 1 ≤ l.length ∧ l.length ≤ 16 := by omega
  simp only [h1, h2, decide_false, cond_false, Option.bind_some]
  have hz : (List.replicate 4 (0 : Int), (0 : Int)) = ((fun i => [sumAt 0 (l.take i), sumAt 1 (l.take i), sumAt 2 (l.take i), sumAt 3 (l.take i)]) 0, 0) := rfl
  rw [hz, loop_scan (xs := l) (P := isVec) (st := fun i => [sumAt 0 (l.take i), sumAt 1 (l.take i), sumAt 2 (l.take i), sumAt 3 (l.take i)]) (t := [sumAt 0 l, sumAt 1 l, sumAt 2 l, sumAt 3 l]) (r := [])]
  · by_cases hall : l.all isVec = true
    · simp only [hall, if_true, Option.bind_some, selim, meanOf, hr, and_self]
      have hv : ∀ v ∈ l, isVec v = true := by simpa using hall
      have hs : ∀ j, j < 4 → -2000 ≤ sumAt j l ∧ sumAt j l ≤ 2000 := by
        intro j hj
        have := sumAt_take (l := l) (i := l.length) (by simpa using hv) (by omega) hj
        simpa using this
      have s0 := hs 0 (by omega)
      have s1 := hs 1 (by omega)
      have s2 := hs 2 (by omega)
      have s3 := hs 3 (by omega)
      have hm : (0 : Int) < (l.length : Int) := by omega
      rw [loop4 (s1 := ([sumAt 0 l / l.length, sumAt 1 l, sumAt 2 l, sumAt 3 l], 1)) (s2 := ([sumAt 0 l / l.length, sumAt 1 l / l.length, sumAt 2 l, sumAt 3 l], 2)) (s3 := ([sumAt 0 l / l.length, sumAt 1 l / l.length, sumAt 2 l / l.length, sumAt 3 l], 3)) (s4 := ([sumAt 0 l / l.length, sumAt 1 l / l.length, sumAt 2 l / l.length, sumAt 3 l / l.length], 4)) (r := [sumAt 0 l / l.length, sumAt 1 l / l.length, sumAt 2 l / l.length, sumAt 3 l / l.length])]
      · rfl
      · simp only [d04, gi0, i01, cond_true, Option.bind_some, implDown_ok hm (show -1000000000 ≤ sumAt 0 l by omega) (by omega)]; rfl
      · simp only [d14, gi1, i12, cond_true, Option.bind_some, implDown_ok hm (show -1000000000 ≤ sumAt 1 l by omega) (by omega)]; rfl
      · simp only [d24, gi2, i23, cond_true, Option.bind_some, implDown_ok hm (show -1000000000 ≤ sumAt 2 l by omega) (by omega)]; rfl
      · simp only [d34, gi3, i34, cond_true, Option.bind_some, implDown_ok hm (show -1000000000 ≤ sumAt 3 l by omega) (by omega)]; rfl
      · simp only [d44, cond_false]
    · rw [if_neg hall]
      unfold meanOf
      rw [if_neg (fun h => hall h.2)]; rfl
  · intro i hi hpre hp
    have e1 : decide ((i : Int) < (l.length : Int)) = true := by simpa using hi
    have e2 : w64 ((i : Int) + 1) = (i : Int) + 1 := w64_id (by omega) (by omega)
    simp only [e1, cond_true, gidx_nat hi, Option.bind_some, e2, impl_valid l[i] (hb _ (List.getElem_mem _)), hp, Bool.not_true, cond_false]
    rw [sumAt_next hi, sumAt_next hi, sumAt_next hi, sumAt_next hi]
    have s0 := sumAt_take hpre (by omega) (show 0 < 4 by omega)
    have s1 := sumAt_take hpre (by omega) (show 1 < 4 by omega)
    have s2 := sumAt_take hpre (by omega) (show 2 < 4 by omega)
    have s3 := sumAt_take hpre (by omega) (show 3 < 4 by omega)
    obtain ⟨a, b, c, d, he, ha, hb', hc, hd⟩ := isVec_cut hp
    rw [he]
    unfold Co at ha hb' hc hd
    generalize sumAt 0 (l.take i) = t0 at *
    generalize sumAt 1 (l.take i) = t1 at *
    generalize sumAt 2 (l.take i) = t2 at *
    generalize sumAt 3 (l.take i) = t3 at *
    have w0 : w64 (t0 + a) = t0 + a := w64_id (by omega) (by omega)
    have w1 : w64 (t1 + b) = t1 + b := w64_id (by omega) (by omega)
    have w2 : w64 (t2 + c) = t2 + c := w64_id (by omega) (by omega)
    have w3 : w64 (t3 + d) = t3 + d := w64_id (by omega) (by omega)
    rw [loop4 (s1 := ([t0 + a, t1, t2, t3], 1)) (s2 := ([t0 + a, t1 + b, t2, t3], 2)) (s3 := ([t0 + a, t1 + b, t2 + c, t3], 3)) (s4 := ([t0 + a, t1 + b, t2 + c, t3 + d], 4)) (r := [t0 + a, t1 + b, t2 + c, t3 + d])]
    · rfl
    · simp only [l4, d04, gi0, i01, cond_true, Option.bind_some, w0]; rfl
    · simp only [l4, d14, gi1, i12, cond_true, Option.bind_some, w1]; rfl
    · simp only [l4, d24, gi2, i23, cond_true, Option.bind_some, w2]; rfl
    · simp only [l4, d34, gi3, i34, cond_true, Option.bind_some, w3]; rfl
    · simp only [l4, d44, cond_false]
  · intro i hi hpre hp
    have e1 : decide ((i : Int) < (l.length : Int)) = true := by simpa using hi
    simp only [e1, cond_true, gidx_nat hi, Option.bind_some, impl_valid l[i] (hb _ (List.getElem_mem _)), hp, Bool.not_false]
  · intro _
    have e1 : decide ((l.length : Int) < (l.length : Int)) = false := by simp
    simp only [e1, cond_false, List.take_length]

theorem sumLoop_ok {l : List (List Int)} {j : Nat} (hj : j < 4) (hl : l.length ≤ 16) (hv : ∀ v ∈ l, isVec v = true) :
    loopM (fun (s16 : (Int) × (Int)) => (bif decide (s16.2 < (l.length : Int)) then
  (gidx l s16.2).bind fun x22 =>
  (gidx x22 (j : Int)).bind fun x32 =>
  some (.inl (w64 (s16.1 + x32), w64 (s16.2 + 1)))
 else
  some (.inr s16.1))) (0, 0) = some (sumAt j l) := by
  have := loop_run (f := fun (s16 : (Int) × (Int)) => (bif decide (s16.2 < (l.length : Int)) then
  (gidx l s16.2).bind fun x22 =>
  (gidx x22 (j : Int)).bind fun x32 =>
  some (.inl (w64 (s16.1 + x32), w64 (s16.2 + 1)))
 else
  some (.inr s16.1))) (r := sumAt j l) l.length (fun i => (sumAt j (l.take i), (i : Int))) (by
    intro i hi
    have e1 : decide ((i : Int) < (l.length : Int)) = true := by simpa using hi
    have e2 : w64 ((i : Int) + 1) = ((i + 1 : Nat) : Int) := w64_id (by omega) (by omega)
    have hx := hv _ (List.getElem_mem hi)
    have hlen := (isVec_iff.1 hx).1
    have hco := vec_co hx hj
    have s := sumAt_take (l := l) (i := i) (fun v h => hv v (List.mem_of_mem_take h)) (by omega) hj
    unfold Co at hco
    simp only [e1, cond_true, gidx_nat hi, Option.bind_some, e2, gidx_getD (show j < l[i].length by omega), sumAt_next hi]
    rw [w64_id (n := sumAt j (l.take i) + l[i].getD j 0) (by omega) (by omega)]) (by
    have e1 : decide (((l.length : Nat) : Int) < (l.length : Int)) = false := by simp
    simp only [e1, cond_false, List.take_length])
  exact this

theorem specMeanOf_ok {l : List (List Int)} (hb : ∀ v ∈ l, v.length < 2000000) (hL : l.length < 2000000) : M.spec_MeanOf l = some (meanOf l) := by
  unfold M.spec_MeanOf
  simp only [spec_inR, Option.bind_some]
  by_cases hr : 1 ≤ l.length ∧ l.length ≤ 16
  · have e : (decide (1 ≤ (l.length : Int)) && decide ((l.length : Int) ≤ 16)) = true := by simp; omega
    simp only [e, Bool.not_true, cond_false]
    rw [loop_all (xs := l) (P := isVec) (r := [])]
    · by_cases hall : l.all isVec = true
      · simp only [hall, if_true, Option.bind_some, selim, meanOf, hr, and_self]
        have hv : ∀ v ∈ l, isVec v = true := by simpa using hall
        have hs : ∀ j, j < 4 → -2000 ≤ sumAt j l ∧ sumAt j l ≤ 2000 := by
          intro j hj
          have := sumAt_take (l := l) (i := l.length) (by simpa using hv) (by omega) hj
          simpa using this
        have s0 := hs 0 (by omega)
        have s1 := hs 1 (by omega)
        have s2 := hs 2 (by omega)
        have s3 := hs 3 (by omega)
        have hm : (0 : Int) < (l.length : Int) := by omega
        have z0 := sumLoop_ok (j := 0) (by omega) hr.2 hv
        have z1 := sumLoop_ok (j := 1) (by omega) hr.2 hv
        have z2 := sumLoop_ok (j := 2) (by omega) hr.2 hv
        have z3 := sumLoop_ok (j := 3) (by omega) hr.2 hv
        simp only [Int.cast_ofNat_Int] at z0 z1 z2 z3
        unfold M.spec_mean
        rw [loop4 (s1 := ([sumAt 0 l / l.length], 1)) (s2 := ([sumAt 0 l / l.length, sumAt 1 l / l.length], 2)) (s3 := ([sumAt 0 l / l.length, sumAt 1 l / l.length, sumAt 2 l / l.length], 3)) (s4 := ([sumAt 0 l / l.length, sumAt 1 l / l.length, sumAt 2 l / l.length, sumAt 3 l / l.length], 4)) (r := [sumAt 0 l / l.length, sumAt 1 l / l.length, sumAt 2 l / l.length, sumAt 3 l / l.length])]
        · rfl
        · simp only [d04, cond_true]
          rw [z0]; simp only [i01, Option.bind_some, specDown_ok hm (show -1000000000 ≤ sumAt 0 l by omega) (by omega)]; rw [gapp_ok (by simp)]; rfl
        · simp only [d14, cond_true]
          rw [z1]; simp only [i12, Option.bind_some, specDown_ok hm (show -1000000000 ≤ sumAt 1 l by omega) (by omega)]; rw [gapp_ok (by simp)]; rfl
        · simp only [d24, cond_true]
          rw [z2]; simp only [i23, Option.bind_some, specDown_ok hm (show -1000000000 ≤ sumAt 2 l by omega) (by omega)]; rw [gapp_ok (by simp)]; rfl
        · simp only [d34, cond_true]
          rw [z3]; simp only [i34, Option.bind_some, specDown_ok hm (show -1000000000 ≤ sumAt 3 l by omega) (by omega)]; rw [gapp_ok (by simp)]; rfl
        · simp only [d44, cond_false]
      · rw [if_neg hall]
        unfold meanOf
        rw [if_neg (fun h => hall h.2)]; rfl
    · intro i hi
      have e1 : decide ((i : Int) < (l.length : Int)) = true := by simpa using hi
      have e2 : w64 ((i : Int) + 1) = (i : Int) + 1 := w64_id (by omega) (by omega)
      simp only [e1, cond_true, gidx_nat hi, Option.bind_some, e2, spec_isVec l[i] (hb _ (List.getElem_mem _))]
      cases isVec l[i] <;> rfl
    · simp
  · have e : (decide (1 ≤ (l.length : Int)) && decide ((l.length : Int) ≤ 16)) = false := by simp; omega
    simp [e, meanOf, hr]

theorem some_loop {n : Nat} : ∀ {k : Nat} {r : List UInt8 × Int} {l : List (List Int)}, k + 12 * n ≤ 500000 → l.length + n ≤ 1000 → n ≤ 100 → Good k r → (∀ v ∈ l, isVec v = true) →
    ∃ r' l', loopM (fun (s40 : ((List UInt8) × (Int)) × (List (List Int)) × (Int)) => (bif decide (0 < s40.2.2) then
  (M.spec_someVector (s40.1.1, s40.1.2)).bind fun r52 =>
  (gapp s40.2.1 ([r52.1] : List (List Int))).bind fun xs79 =>
  some (.inl ((r52.2.1, r52.2.2), xs79, w64 (s40.2.2 - 1)))
 else
  some (.inr ((s40.1.1, s40.1.2), s40.2.1)))) (r, l, (n : Int)) = some (r', l') ∧ Good (k + 12 * n) r' ∧ l'.length = l.length + n ∧ ∀ v ∈ l', isVec v = true := by
  induction n with
  | zero =>
    intro k r l hk hl _ hr hv
    refine ⟨r, l, ?_, hr, rfl, hv⟩
    rw [loopM_eq]; simp [selim]
  | succ n ih =>
    intro k r l hk hl hn hr hv
    obtain ⟨v, r2, h2, g2, hvec⟩ := vector_ok (by omega) hr
    obtain ⟨r', l', h, g, hlen, hall⟩ := ih (k := k + 12) (r := r2) (l := l ++ [v]) (by omega) (by simp; omega) (by omega) g2 (by
      intro u hu
      rcases List.mem_append.1 hu with h | h
      · exact hv u h
      · simp only [List.mem_singleton] at h; subst h; exact hvec)
    refine ⟨r', l', ?_, g.mono (by omega), by simp at hlen; omega, hall⟩
    rw [loopM_eq]
    have e1 : decide ((0 : Int) < ((n + 1 : Nat) : Int)) = true := by simp
    have e2 : w64 (((n + 1 : Nat) : Int) - 1) = (n : Int) := by rw [w64_id (by omega) (by omega)]; omega
    simp only [e1, cond_true, h2, Option.bind_some, gapp_ok (xs := l) (ys := [v]) (by simp; omega), e2, selim]
    exact h

theorem drawMeanOf_ok (code : List UInt8) : ∃ l, M.spec_DrawMeanOf code = some l ∧ l.length ≤ 18 ∧ ∀ v ∈ l, Near v := by
  obtain ⟨r, h, g⟩ := newReader_ok code
  obtain ⟨n, r1, h1, g1, m1⟩ := one_ok (by omega) g (list := [3, 2, 4, 1, 0, 16, 17]) (by simp)
  simp only [List.mem_cons, List.not_mem_nil, or_false] at m1
  obtain ⟨m, rfl⟩ := Int.eq_ofNat_of_zero_le (show 0 ≤ n by omega)
  obtain ⟨r2, l, h2, g2, hl, hv⟩ := some_loop (n := m) (k := 0 + 1) (r := r1) (l := []) (by omega) (by simp; omega) (by omega) g1 (by simp)
  obtain ⟨x, r3, h3, g3, _⟩ := pick_ok (by omega) g2 12
  simp only [List.length_nil] at hl
  unfold M.spec_DrawMeanOf
  simp only [h, h1, Option.bind_some, h2, h3]
  by_cases c : x = 0
  · obtain ⟨u, r4, h4, g4, nu⟩ := any_ok (by omega) g3
    refine ⟨l ++ [u], ?_, by simp; omega, fun v hv' => ?_⟩
    · simp only [c, BEq.rfl, cond_true, h4, Option.bind_some, gapp_ok (xs := l) (ys := [u]) (by simp; omega)]
    · rcases List.mem_append.1 hv' with h | h
      · exact near_of (hv v h)
      · simp only [List.mem_singleton] at h; subst h; exact nu
  · have e : (x == 0) = false := by simpa using c
    exact ⟨l, by simp only [e, cond_false, Option.bind_some], by omega, fun v h => near_of (hv v h)⟩

theorem meanOf_nil {l : List (List Int)} : meanOf l = [] ∨ ((1 ≤ l.length ∧ l.length ≤ 16) ∧ ∀ v ∈ l, isVec v = true) := by
  unfold meanOf; split
  · rename_i h; exact .inr ⟨h.1, by simpa using h.2⟩
  · exact .inl rfl
theorem meanOf_len {l : List (List Int)} : (meanOf l).length < 2000000 := by unfold meanOf; split <;> simp

/-- The least and the greatest of a coordinate. -/
def lowAt (j : Nat) (x : Int) (l : List (List Int)) : Int := l.foldl (fun m v => min m (v.getD j 0)) x
def highAt (j : Nat) (x : Int) (l : List (List Int)) : Int := l.foldl (fun m v => max m (v.getD j 0)) x
theorem lowAt_le {j : Nat} {l : List (List Int)} : ∀ {x : Int}, lowAt j x l ≤ x ∧ ∀ v ∈ l, lowAt j x l ≤ v.getD j 0 := by
  induction l with
  | nil => intro x; simp [lowAt]
  | cons v l ih =>
    intro x
    have := ih (x := min x (v.getD j 0))
    have e : lowAt j x (v :: l) = lowAt j (min x (v.getD j 0)) l := rfl
    rw [e]
    refine ⟨by omega, fun u hu => ?_⟩
    rcases List.mem_cons.1 hu with h | h
    · subst h; omega
    · exact this.2 u h
theorem le_highAt {j : Nat} {l : List (List Int)} : ∀ {x : Int}, x ≤ highAt j x l ∧ ∀ v ∈ l, v.getD j 0 ≤ highAt j x l := by
  induction l with
  | nil => intro x; simp [highAt]
  | cons v l ih =>
    intro x
    have := ih (x := max x (v.getD j 0))
    have e : highAt j x (v :: l) = highAt j (max x (v.getD j 0)) l := rfl
    rw [e]
    refine ⟨by omega, fun u hu => ?_⟩
    rcases List.mem_cons.1 hu with h | h
    · subst h; omega
    · exact this.2 u h
theorem lowHigh_loop {l : List (List Int)} {j : Nat} {x : Int} (hj : j < 4) (hl : l.length ≤ 16) (hv : ∀ v ∈ l, isVec v = true) :
    loopM (fun (s126 : (Int) × (Int) × (Int)) => (bif decide (s126.2.2 < (l.length : Int)) then
  (gidx l s126.2.2).bind fun x133 =>
  (gidx x133 (j : Int)).bind fun x143 =>
  (gidx l s126.2.2).bind fun x148 =>
  (gidx x148 (j : Int)).bind fun x158 =>
  some (.inl (min s126.1 x143, max s126.2.1 x158, w64 (s126.2.2 + 1)))
 else
  some (.inr (s126.1, s126.2.1)))) (x, x, 0) = some (lowAt j x l, highAt j x l) := by
  have := loop_run (f := fun (s126 : (Int) × (Int) × (Int)) => (bif decide (s126.2.2 < (l.length : Int)) then
  (gidx l s126.2.2).bind fun x133 =>
  (gidx x133 (j : Int)).bind fun x143 =>
  (gidx l s126.2.2).bind fun x148 =>
  (gidx x148 (j : Int)).bind fun x158 =>
  some (.inl (min s126.1 x143, max s126.2.1 x158, w64 (s126.2.2 + 1)))
 else
  some (.inr (s126.1, s126.2.1)))) (r := (lowAt j x l, highAt j x l)) l.length (fun i => (lowAt j x (l.take i), highAt j x (l.take i), (i : Int))) (by
    intro i hi
    have e1 : decide ((i : Int) < (l.length : Int)) = true := by simpa using hi
    have e2 : w64 ((i : Int) + 1) = ((i + 1 : Nat) : Int) := w64_id (by omega) (by omega)
    have hx := hv _ (List.getElem_mem hi)
    have hlen := (isVec_iff.1 hx).1
    simp only [e1, cond_true, gidx_nat hi, Option.bind_some, e2, gidx_getD (show j < l[i].length by omega)]
    rw [List.take_succ_eq_append_getElem hi]
    simp only [lowAt, highAt, List.foldl_append, List.foldl_cons, List.foldl_nil]) (by
    have e1 : decide (((l.length : Nat) : Int) < (l.length : Int)) = false := by simp
    simp only [e1, cond_false, List.take_length])
  exact this

theorem mean_between {l : List (List Int)} {j : Nat} {a b : Int} (hl : 1 ≤ l.length) (h : ∀ v ∈ l, a ≤ v.getD j 0 ∧ v.getD j 0 ≤ b) : a ≤ sumAt j l / l.length ∧ sumAt j l / l.length ≤ b := by
  have s := sumAt_bounds h
  have hp : (0 : Int) < (l.length : Int) := by omega
  refine ⟨Int.le_ediv_of_mul_le hp s.1, ?_⟩
  have : sumAt j l / (l.length : Int) < b + 1 := Int.ediv_lt_of_lt_mul hp (by rw [Int.add_mul]; omega)
  omega

theorem law_MeanOf (code : List UInt8) : M.laws_FnMeanOf code = some true := by
  obtain ⟨l, h, hL, hn⟩ := drawMeanOf_ok code
  have hb : ∀ v ∈ l, v.length < 2000000 := fun v hv => by have := (hn v hv).1; omega
  unfold M.laws_FnMeanOf
  by_cases hc : 1048576 < (code.length : Int)
  · simp [hc]
  simp only [hc, decide_false, cond_false, h, Option.bind_some, implMean_ok hb, specMeanOf_ok hb (by omega), equalInts_ok meanOf_len, decide_true, Bool.not_true, impl_valid _ meanOf_len]
  rcases meanOf_nil (l := l) with hnil | ⟨hr, hv⟩
  · simp [hnil]
  · have em : meanOf l = [sumAt 0 l / l.length, sumAt 1 l / l.length, sumAt 2 l / l.length, sumAt 3 l / l.length] := by
      unfold meanOf; rw [if_pos ⟨hr, by simpa using hv⟩]
    have hmv : ∀ j, j < 4 → Co (sumAt j l / l.length) := fun j hj => mean_between hr.1 (fun v h => vec_co (hv v h) hj)
    have hvm : isVec (meanOf l) = true := by rw [em]; exact isVec_mk (hmv 0 (by omega)) (hmv 1 (by omega)) (hmv 2 (by omega)) (hmv 3 (by omega))
    rw [hvm, em]
    simp only [l4, show ((4 : Int) == 0) = false from rfl, cond_false, Option.bind_some]
    obtain ⟨v0, l0, rfl⟩ : ∃ v0 l0, l = v0 :: l0 := by
      match l, hr.1 with
      | v :: l, _ => exact ⟨v, l, rfl⟩
    have v0v := hv v0 (by simp)
    have v0l := (isVec_iff.1 v0v).1
    have key : ∀ j : Nat, j < 4 → decide (sumAt j (v0 :: l0) / ((v0 :: l0).length : Int) < lowAt j (v0.getD j 0) (v0 :: l0)) = false ∧ decide (highAt j (v0.getD j 0) (v0 :: l0) < sumAt j (v0 :: l0) / ((v0 :: l0).length : Int)) = false := by
      intro j hj
      have m := mean_between (j := j) hr.1 (fun v h => ⟨(lowAt_le (j := j) (l := v0 :: l0) (x := v0.getD j 0)).2 v h, (le_highAt (j := j) (l := v0 :: l0) (x := v0.getD j 0)).2 v h⟩)
      constructor
      · rw [decide_eq_false_iff_not]; omega
      · rw [decide_eq_false_iff_not]; omega
    have k0 := key 0 (by omega)
    have k1 := key 1 (by omega)
    have k2 := key 2 (by omega)
    have k3 := key 3 (by omega)
    have z0 := lowHigh_loop (j := 0) (x := v0.getD 0 0) (by omega) hr.2 hv
    have z1 := lowHigh_loop (j := 1) (x := v0.getD 1 0) (by omega) hr.2 hv
    have z2 := lowHigh_loop (j := 2) (x := v0.getD 2 0) (by omega) hr.2 hv
    have z3 := lowHigh_loop (j := 3) (x := v0.getD 3 0) (by omega) hr.2 hv
    have y0 : gidx v0 (0 : Int) = some (v0.getD 0 0) := gidx_getD (j := 0) (by omega)
    have y1 : gidx v0 (1 : Int) = some (v0.getD 1 0) := gidx_getD (j := 1) (by omega)
    have y2 : gidx v0 (2 : Int) = some (v0.getD 2 0) := gidx_getD (j := 2) (by omega)
    have y3 : gidx v0 (3 : Int) = some (v0.getD 3 0) := gidx_getD (j := 3) (by omega)
    simp only [Int.cast_ofNat_Int] at z0 z1 z2 z3
    rw [loop4 (s1 := 1) (s2 := 2) (s3 := 3) (s4 := 4) (r := .inl ())]
    · rfl
    · simp only [d04, cond_true, gi0 (a := v0), Option.bind_some, y0]
      rw [z0]; simp only [Option.bind_some, gi0, k0.1, k0.2, cond_false, i01]
    · simp only [d14, cond_true, gi0 (a := v0), Option.bind_some, y1]
      rw [z1]; simp only [Option.bind_some, gi1, k1.1, k1.2, cond_false, i12]
    · simp only [d24, cond_true, gi0 (a := v0), Option.bind_some, y2]
      rw [z2]; simp only [Option.bind_some, gi2, k2.1, k2.2, cond_false, i23]
    · simp only [d34, cond_true, gi0 (a := v0), Option.bind_some, y3]
      rw [z3]; simp only [Option.bind_some, gi3, k3.1, k3.2, cond_false, i34]
    · simp only [d44, cond_false]
end Go.Vs
