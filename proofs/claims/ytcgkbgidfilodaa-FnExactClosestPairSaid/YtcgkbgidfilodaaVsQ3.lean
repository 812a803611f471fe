/- Boxes, and the laws of bounds and boxes. -/
import Derived.Test.YtcgkbgidfilodaaVsQ2
set_option linter.unusedVariables false
set_option linter.unusedSimpArgs false
namespace Go.Vs

/-- A vector lies in a box. -/
def inB (v lo hi : List Int) : Bool := (v.zip (lo.zip hi)).all fun x => decide (x.2.1 ≤ x.1) && decide (x.1 ≤ x.2.2)
theorem inB_four {a b c d e f g h i j k m : Int} : inB [a, b, c, d] [e, f, g, h] [i, j, k, m] = true ↔ ((e ≤ a ∧ a ≤ i) ∧ (f ≤ b ∧ b ≤ j) ∧ (g ≤ c ∧ c ≤ k) ∧ (h ≤ d ∧ d ≤ m)) := by
  simp [inB]
theorem insideBox_ok {v lo hi : List Int} (hv : v.length = 4) (h1 : lo.length = 4) (h2 : hi.length = 4) : M.impl_insideBox v lo hi = some (inB v lo hi) := by
  unfold M.impl_insideBox
  have hz : (v.zip (lo.zip hi)).length = 4 := by simp [List.length_zip, hv, h1, h2]
  rw [loop_all (xs := v.zip (lo.zip hi)) (P := fun x => decide (x.2.1 ≤ x.1) && decide (x.1 ≤ x.2.2)) (r := false)]
  · show _ = some (inB v lo hi)
    unfold inB
    cases (v.zip (lo.zip hi)).all fun x => decide (x.2.1 ≤ x.1) && decide (x.1 ≤ x.2.2) <;> rfl
  · intro i hi'
    have i1 : i < v.length := by omega
    have i2 : i < lo.length := by omega
    have i3 : i < hi.length := by omega
    have e1 : decide ((i : Int) < (v.length : Int)) = true := decide_eq_true (by omega)
    have e2 : w64 ((i : Int) + 1) = (i : Int) + 1 := w64_id (by omega) (by omega)
    simp only [e1, cond_true, gidx_nat i1, gidx_nat i2, gidx_nat i3, Option.bind_some, e2, List.getElem_zip]
    by_cases c1 : v[i] < lo[i]
    · have c2 : ¬ lo[i] ≤ v[i] := by omega
      simp [c1, c2]
    · have c2 : lo[i] ≤ v[i] := by omega
      by_cases c3 : hi[i] < v[i]
      · have c4 : ¬ v[i] ≤ hi[i] := by omega
        simp [c1, c3, c4]
      · have c4 : v[i] ≤ hi[i] := by omega
        simp [c1, c2, c3, c4]
  · simp [hv, hz]
def inBox (l : List Item) (lo hi : List Int) : List Int := if okStore l = true ∧ isVec lo = true ∧ isVec hi = true then (l.filter fun x => inB x.2.1 lo hi).map (·.1) else []
theorem foldl_filterMap {α β : Type} (p : α → Bool) (g : α → β) (l : List α) : ∀ s : List β, l.foldl (fun s x => if p x = true then s ++ [g x] else s) s = s ++ (l.filter p).map g := by
  induction l with
  | nil => intro s; simp
  | cons x l ih =>
    intro s
    rw [List.foldl_cons, ih, List.filter_cons]
    by_cases h : p x = true <;> simp [h]
theorem implInBox_ok {l : List Item} {lo hi : List Int} (h : SmallS l) (h1 : lo.length < 2000000) (h2 : hi.length < 2000000) : M.impl_InBox l lo hi = some (inBox l lo hi) := by
  unfold M.impl_InBox inBox
  simp only [h.impl, impl_valid lo h1, impl_valid hi h2, Option.bind_some]
  cases ho : okStore l with
  | false => simp
  | true =>
    cases hlo : isVec lo with
    | false => simp
    | true =>
      cases hhi : isVec hi with
      | false => simp
      | true =>
        obtain ⟨hlen, hit, _⟩ := okStore_iff.1 ho
        simp only [Bool.not_true, cond_false, Option.bind_some, and_self, if_true]
        refine fold_bind (xs := l) (fun s i => (s, i)) (fun s x => if inB x.2.1 lo hi = true then s ++ [x.1] else s) (fun i s => s.length ≤ i) (fun s => s) (by simp) ?_ ?_ ?_
        · intro s i hi' hs
          have e1 : decide ((i : Int) < (l.length : Int)) = true := decide_eq_true (by omega)
          simp only [e1, cond_true, gidx_nat hi', Option.bind_some, w64_succ (i := i) (by omega), insideBox_ok (isItem_len (hit _ (List.getElem_mem hi'))) (isVec_iff.1 hlo).1 (isVec_iff.1 hhi).1]
          cases inB l[i].2.1 lo hi with
          | true =>
            simp only [cond_true, if_true]
            rw [gapp_ok (by simp; omega)]
            exact ⟨by first | rfl | trivial, by simp; omega⟩
          | false => exact ⟨by first | rfl | trivial, by simp only [Bool.false_eq_true, if_false]; omega⟩
        · intro s _; simp
        · intro _; rw [foldl_filterMap]; simp
theorem specInBox_ok {l : List Item} {lo hi : List Int} (h : SmallS l) (h1 : lo.length < 2000000) (h2 : hi.length < 2000000) : M.spec_InBox l lo hi = some (inBox l lo hi) := by
  unfold M.spec_InBox inBox
  simp only [h.specv, spec_isVec lo h1, spec_isVec hi h2, Option.bind_some]
  cases ho : okStore l with
  | false => simp
  | true =>
    cases hlo : isVec lo with
    | false => simp
    | true =>
      cases hhi : isVec hi with
      | false => simp
      | true =>
        obtain ⟨hlen, hit, _⟩ := okStore_iff.1 ho
        simp only [Bool.not_true, cond_false, Option.bind_some, and_self, if_true]
        refine fold_bind (xs := l) (fun s i => (s, i)) (fun s x => if inB x.2.1 lo hi = true then s ++ [x.1] else s) (fun i s => s.length ≤ i) (fun s => s) (by simp) ?_ ?_ ?_
        · intro s i hi' hs
          have e1 : decide ((i : Int) < (l.length : Int)) = true := decide_eq_true (by omega)
          have hy := isItem_len (hit _ (List.getElem_mem hi'))
          simp only [e1, cond_true, gidx_nat hi', Option.bind_some, w64_succ (i := i) (by omega), spec_inR]
          obtain ⟨e, f, g, j, rfl⟩ := four (isVec_iff.1 hlo).1
          obtain ⟨k, m, n, o, rfl⟩ := four (isVec_iff.1 hhi).1
          generalize l[i] = y at hy
          obtain ⟨ky, v, ty⟩ := y
          obtain ⟨a, b, c, d, rfl⟩ := four hy
          rw [loop4 (s1 := ((decide (e ≤ a) && decide (a ≤ k)), 1)) (s2 := ((decide (e ≤ a) && decide (a ≤ k)) && (decide (f ≤ b) && decide (b ≤ m)), 2)) (s3 := (((decide (e ≤ a) && decide (a ≤ k)) && (decide (f ≤ b) && decide (b ≤ m))) && (decide (g ≤ c) && decide (c ≤ n)), 3))
            (s4 := ((((decide (e ≤ a) && decide (a ≤ k)) && (decide (f ≤ b) && decide (b ≤ m))) && (decide (g ≤ c) && decide (c ≤ n))) && (decide (j ≤ d) && decide (d ≤ o)), 4)) (r := ((((decide (e ≤ a) && decide (a ≤ k)) && (decide (f ≤ b) && decide (b ≤ m))) && (decide (g ≤ c) && decide (c ≤ n))) && (decide (j ≤ d) && decide (d ≤ o))))]
          · have : ((((decide (e ≤ a) && decide (a ≤ k)) && (decide (f ≤ b) && decide (b ≤ m))) && (decide (g ≤ c) && decide (c ≤ n))) && (decide (j ≤ d) && decide (d ≤ o))) = inB [a, b, c, d] [e, f, g, j] [k, m, n, o] := by
              simp [inB, Bool.and_assoc]
            rw [this]
            simp only [Option.bind_some]
            cases inB [a, b, c, d] [e, f, g, j] [k, m, n, o] with
            | true =>
              simp only [cond_true, if_true]
              rw [gapp_ok (by simp; omega)]
              exact ⟨by first | rfl | trivial, by simp; omega⟩
            | false => exact ⟨by first | rfl | trivial, by simp only [Bool.false_eq_true, if_false]; omega⟩
          · simp only [d04, cond_true, gi0, Option.bind_some, i01]
          · simp only [d14, cond_true, gi1, Option.bind_some, i12]
            cases (decide (e ≤ a) && decide (a ≤ k)) <;> rfl
          · simp only [d24, cond_true, gi2, Option.bind_some, i23]
            cases ((decide (e ≤ a) && decide (a ≤ k)) && (decide (f ≤ b) && decide (b ≤ m))) <;> rfl
          · simp only [d34, cond_true, gi3, Option.bind_some, i34]
            cases (((decide (e ≤ a) && decide (a ≤ k)) && (decide (f ≤ b) && decide (b ≤ m))) && (decide (g ≤ c) && decide (c ≤ n))) <;> rfl
          · simp only [d44, cond_false]
        · intro s _; simp
        · intro _; rw [foldl_filterMap]; simp
theorem inBox_len {l : List Item} {lo hi : List Int} (h : SmallS l) : (inBox l lo hi).length < 2000000 := by
  unfold inBox
  split
  · rw [List.length_map]; have := List.length_filter_le (fun x : Item => inB x.2.1 lo hi) l; have := h.1; omega
  · simp

theorem law_BoundsOf (code : List UInt8) : M.laws_FnBoundsOf code = some true := by
  unfold M.laws_FnBoundsOf
  by_cases hc : 1048576 < (code.length : Int)
  · simp [hc]
  obtain ⟨l, h, n⟩ := drawBounds_ok code
  have s := n.small
  simp only [hc, decide_false, cond_false, h, Option.bind_some, implBounds_ok s, specBounds_ok s, equalInts_ok bounds_len.1, equalInts_ok bounds_len.2, decide_true, Bool.not_true, bne_self_eq_false]
  rcases bounds_false (l := l) with hf | ⟨x, r, hl, ho⟩
  · simp [hf]
  have hlo := (bounds_len (l := l)).1
  have hhi := (bounds_len (l := l)).2
  obtain ⟨a, b, c, d, e, f, g, i, hab, hb⟩ := bounds_vec hl ho
  obtain ⟨hlen, hit, _⟩ := okStore_iff.1 ho
  have hv : ∀ v ∈ r.map (·.2.1), isVec v = true := by
    intro v hv
    obtain ⟨y, hy, rfl⟩ := List.mem_map.1 hv
    exact isItem_vec (hit y (by rw [hl]; simp [hy]))
  have hx := isItem_vec (hit x (by rw [hl]; simp))
  -- the bounds are coordinates
  have co : ∀ k, k < 4 → Co (lowAt k (x.2.1.getD k 0) (r.map (·.2.1))) ∧ Co (highAt k (x.2.1.getD k 0) (r.map (·.2.1))) := by
    intro k hk
    refine ⟨?_, ?_⟩
    · rcases lowAt_mem (j := k) (x := x.2.1.getD k 0) (l := r.map (·.2.1)) with h1 | ⟨v, hv', h1⟩
      · rw [h1]; exact vec_co hx hk
      · rw [h1]; exact vec_co (hv v hv') hk
    · rcases highAt_mem (j := k) (x := x.2.1.getD k 0) (l := r.map (·.2.1)) with h1 | ⟨v, hv', h1⟩
      · rw [h1]; exact vec_co hx hk
      · rw [h1]; exact vec_co (hv v hv') hk
  have k0 := hab 0 (by omega)
  have k1 := hab 1 (by omega)
  have k2 := hab 2 (by omega)
  have k3 := hab 3 (by omega)
  simp only [List.getElem_cons_zero, List.getElem_cons_succ] at k0 k1 k2 k3
  have vlo : isVec [a, b, c, d] = true := isVec_mk (by rw [k0.1]; exact (co 0 (by omega)).1) (by rw [k1.1]; exact (co 1 (by omega)).1) (by rw [k2.1]; exact (co 2 (by omega)).1) (by rw [k3.1]; exact (co 3 (by omega)).1)
  have vhi : isVec [e, f, g, i] = true := isVec_mk (by rw [k0.2]; exact (co 0 (by omega)).2) (by rw [k1.2]; exact (co 1 (by omega)).2) (by rw [k2.2]; exact (co 2 (by omega)).2) (by rw [k3.2]; exact (co 3 (by omega)).2)
  have all : inBox l [a, b, c, d] [e, f, g, i] = l.map (·.1) := by
    unfold inBox
    rw [if_pos ⟨ho, vlo, vhi⟩]
    congr 1
    rw [List.filter_eq_self]
    intro y hy
    obtain ⟨y0, y1, y2, y3, hyv, _⟩ := isVec_four (isItem_vec (hit y hy))
    rw [hyv, inB_four]
    have each : ∀ k, k < 4 → lowAt k (x.2.1.getD k 0) (r.map (·.2.1)) ≤ y.2.1.getD k 0 ∧ y.2.1.getD k 0 ≤ highAt k (x.2.1.getD k 0) (r.map (·.2.1)) := by
      intro k _
      have hL := lowAt_le (j := k) (l := r.map (·.2.1)) (x := x.2.1.getD k 0)
      have hH := le_highAt (j := k) (l := r.map (·.2.1)) (x := x.2.1.getD k 0)
      rw [hl] at hy
      rcases List.mem_cons.1 hy with rfl | hy
      · exact ⟨hL.1, hH.1⟩
      · exact ⟨hL.2 _ (List.mem_map.2 ⟨y, hy, rfl⟩), hH.2 _ (List.mem_map.2 ⟨y, hy, rfl⟩)⟩
    have m0 := each 0 (by omega)
    have m1 := each 1 (by omega)
    have m2 := each 2 (by omega)
    have m3 := each 3 (by omega)
    rw [← k0.1, ← k0.2] at m0
    rw [← k1.1, ← k1.2] at m1
    rw [← k2.1, ← k2.2] at m2
    rw [← k3.1, ← k3.2] at m3
    simp only [hyv, List.getD_cons_zero, List.getD_cons_succ] at m0 m1 m2 m3
    exact ⟨m0, m1, m2, m3⟩
  rw [hb] at hlo hhi
  simp only [hb, Bool.not_true, cond_false, implInBox_ok s hlo hhi, Option.bind_some, impl_valid _ hlo, impl_valid _ hhi, all, List.length_map, BEq.rfl, cond_true, vlo, vhi]

/-! ## InBox -/
theorem isIn_ok {l : List Int} {k : Int} (h : l.length < 2000000) : M.laws_isIn l k = some (l.any fun x => x == k) := by
  unfold M.laws_isIn
  rw [loop_first (xs := l) (fun x => x == k) (fun _ => true)]
  · have : l.any (fun x => x == k) = (l.findIdx? (fun x => x == k)).isSome := by
      rw [Bool.eq_iff_iff, List.any_eq_true, List.findIdx?_isSome, List.any_eq_true]
    rw [this]
    cases l.findIdx? (fun x => x == k) <;> rfl
  · intro i hi
    have e1 : decide ((i : Int) < (l.length : Int)) = true := decide_eq_true (by omega)
    simp only [e1, cond_true, gidx_nat hi, Option.bind_some, w64_succ (i := i) (by omega)]
    cases l[i] == k <;> rfl
  · simp
theorem drawInBox_ok (code : List UInt8) : ∃ l lo hi, M.spec_DrawInBox code = some (l, lo, hi) ∧ NearS l ∧ lo.length ≤ 5 ∧ hi.length ≤ 5 := by
  obtain ⟨r, h, g⟩ := newReader_ok code
  obtain ⟨l, r1, h1, g1, n⟩ := anyStore_ok (by omega) g
  obtain ⟨lo, r2, h2, g2, n2⟩ := any_ok (by omega) g1
  obtain ⟨hi, r3, h3, g3, n3⟩ := any_ok (by omega) g2
  unfold M.spec_DrawInBox
  simp only [h, h1, h2, h3, Option.bind_some]
  obtain ⟨⟨a, b⟩, e, ha, hb⟩ := loopM_ind (f := fun (s33 : ((List UInt8) × (Int)) × (List Int) × (List Int) × (Int)) => Option.bind ((bif decide (s33.2.2.2 < (s33.2.1.length : Int)) then
  (bif decide (s33.2.2.2 < (s33.2.2.1.length : Int)) then
  (M.spec_reader_pick (s33.1.1, s33.1.2) 5).bind fun r42 =>
  some ((r42.2.1, r42.2.2), decide (0 < r42.1))
 else
  some ((s33.1.1, s33.1.2), false))
 else
  some ((s33.1.1, s33.1.2), false))) fun o39 =>
  (bif o39.2 then
  Option.bind ((gidx s33.2.1 s33.2.2.2).bind fun x53 =>
  (gidx s33.2.2.1 s33.2.2.2).bind fun x59 =>
  (bif decide (x59 < x53) then
  (gidx s33.2.1 s33.2.2.2).bind fun x67 =>
  (gidx s33.2.2.1 s33.2.2.2).bind fun x73 =>
  (gidx s33.2.1 s33.2.2.2).bind fun x79 =>
  (gidx s33.2.2.1 s33.2.2.2).bind fun x85 =>
  some ((s33.2.1.set s33.2.2.2.toNat x73), (s33.2.2.1.set s33.2.2.2.toNat x67))
 else
  some (s33.2.1, s33.2.2.1))) fun o52 =>
  some (.inl ((o39.1.1, o39.1.2), o52.1, o52.2, w64 (s33.2.2.2 + 1)))
 else
  some (.inr (s33.2.1, s33.2.2.1))))
    (fun s => ∃ i : Nat, s.2.2.2 = (i : Int) ∧ i ≤ 5 ∧ Good (1000 + i) s.1 ∧ s.2.1.length ≤ 5 ∧ s.2.2.1.length ≤ 5) (fun s => (10 - s.2.2.2).toNat) (fun x => x.1.length ≤ 5 ∧ x.2.length ≤ 5) (by
      rintro ⟨q, u, v, j⟩ ⟨i, hj, hi5, hq, hu, hv⟩
      simp only at hj hu hv hq ⊢
      subst hj
      by_cases c1 : i < u.length
      · by_cases c2 : i < v.length
        · obtain ⟨x, q', hx, gx, _, _, _⟩ := pick_ok (by omega) hq 5
          have e1 : decide ((i : Int) < (u.length : Int)) = true := decide_eq_true (by omega)
          have e2 : decide ((i : Int) < (v.length : Int)) = true := decide_eq_true (by omega)
          simp only [e1, e2, cond_true, hx, Option.bind_some]
          by_cases c3 : 0 < x
          · simp only [c3, decide_true, cond_true, gidx_nat c1, gidx_nat c2, Option.bind_some]
            refine .inl ?_
            by_cases c4 : v[i] < u[i]
            · simp only [c4, decide_true, cond_true, Option.bind_some, w64_succ (i := i) (by omega)]
              exact ⟨_, rfl, ⟨i + 1, rfl, by omega, gx, by simp only; simpa using hu, by simp only; simpa using hv⟩, by simp only; omega⟩
            · simp only [c4, decide_false, cond_false, Option.bind_some, w64_succ (i := i) (by omega)]
              exact ⟨_, rfl, ⟨i + 1, rfl, by omega, gx, hu, hv⟩, by simp only; omega⟩
          · simp only [c3, decide_false, cond_false]
            exact .inr ⟨_, rfl, hu, hv⟩
        · have e1 : decide ((i : Int) < (u.length : Int)) = true := decide_eq_true (by omega)
          have e2 : decide ((i : Int) < (v.length : Int)) = false := decide_eq_false (by omega)
          simp only [e1, e2, cond_true, cond_false, Option.bind_some]
          exact .inr ⟨_, rfl, hu, hv⟩
      · have e1 : decide ((i : Int) < (u.length : Int)) = false := decide_eq_false (by omega)
        simp only [e1, cond_false, Option.bind_some]
        exact .inr ⟨_, rfl, hu, hv⟩)
    ((r3.1, r3.2), lo, hi, 0) ⟨0, rfl, by omega, g3.mono (by omega), n2.1, n3.1⟩
  exact ⟨l, a, b, by rw [e]; rfl, n, ha, hb⟩

theorem law_InBox (code : List UInt8) : M.laws_FnInBox code = some true := by
  unfold M.laws_FnInBox
  by_cases hc : 1048576 < (code.length : Int)
  · simp [hc]
  obtain ⟨l, lo, hi, h, n, hl, hh⟩ := drawInBox_ok code
  have s := n.small
  have hol := inBox_len (lo := lo) (hi := hi) s
  simp only [hc, decide_false, cond_false, h, Option.bind_some, implInBox_ok s (show lo.length < 2000000 by omega) (show hi.length < 2000000 by omega), specInBox_ok s (show lo.length < 2000000 by omega) (show hi.length < 2000000 by omega), equalInts_ok hol, decide_true, Bool.not_true]
  by_cases hne : (inBox l lo hi).length = 0
  · have : (((inBox l lo hi).length : Int) == 0) = true := beq_iff_eq.2 (by omega)
    simp [this]
  have e0 : (((inBox l lo hi).length : Int) == 0) = false := beq_eq_false_iff_ne.2 (by omega)
  simp only [e0, cond_false]
  have hok : okStore l = true ∧ isVec lo = true ∧ isVec hi = true := by
    unfold inBox at hne
    split at hne
    · assumption
    · exact absurd rfl hne
  obtain ⟨ho, vlo, vhi⟩ := hok
  have hbox : inBox l lo hi = (l.filter fun x => inB x.2.1 lo hi).map (·.1) := by unfold inBox; rw [if_pos ⟨ho, vlo, vhi⟩]
  obtain ⟨hlen, hit, hp⟩ := okStore_iff.1 ho
  have isin : ∀ i (h : i < l.length), ((inBox l lo hi).any fun x => x == l[i].1) = inB l[i].2.1 lo hi := by
    intro i hi'
    rw [hbox, Bool.eq_iff_iff, List.any_map, List.any_eq_true]
    constructor
    · rintro ⟨y, hy, hyk⟩
      obtain ⟨hy1, hy2⟩ := List.mem_filter.1 hy
      obtain ⟨j, hj, rfl⟩ := List.getElem_of_mem hy1
      have hk : l[j].1 = l[i].1 := by simpa using hyk
      rcases Nat.lt_trichotomy j i with hji | hji | hji
      · have := List.pairwise_iff_getElem.1 hp _ _ hj hi' hji; omega
      · subst hji; exact hy2
      · have := List.pairwise_iff_getElem.1 hp _ _ hi' hj hji; omega
    · intro hin
      exact ⟨l[i], List.mem_filter.2 ⟨List.getElem_mem hi', hin⟩, by simp⟩
  rw [loop_all (xs := l) (P := fun _ => true) (r := false)]
  · have hle : (inBox l lo hi).length ≤ l.length := by
      rw [hbox, List.length_map]; exact List.length_filter_le _ _
    simp [selim, hle]
  · intro i hi'
    have e1 : decide ((i : Int) < (l.length : Int)) = true := decide_eq_true (by omega)
    have e2 : w64 ((i : Int) + 1) = (i : Int) + 1 := w64_id (by omega) (by omega)
    have hy := isItem_len (hit _ (List.getElem_mem hi'))
    have hin := isin i hi'
    simp only [e1, cond_true, gidx_nat hi', Option.bind_some, isIn_ok hol, e2, hin]
    obtain ⟨e, f, g, j, rfl⟩ := four (isVec_iff.1 vlo).1
    obtain ⟨k, m, n, o, rfl⟩ := four (isVec_iff.1 vhi).1
    generalize l[i] = y at hy
    obtain ⟨ky, v, ty⟩ := y
    obtain ⟨a, b, c, d, rfl⟩ := four hy
    rw [loop4 (s1 := ((decide (e ≤ a) && decide (a ≤ k)), 1)) (s2 := ((decide (e ≤ a) && decide (a ≤ k)) && (decide (f ≤ b) && decide (b ≤ m)), 2)) (s3 := (((decide (e ≤ a) && decide (a ≤ k)) && (decide (f ≤ b) && decide (b ≤ m))) && (decide (g ≤ c) && decide (c ≤ n)), 3))
      (s4 := ((((decide (e ≤ a) && decide (a ≤ k)) && (decide (f ≤ b) && decide (b ≤ m))) && (decide (g ≤ c) && decide (c ≤ n))) && (decide (j ≤ d) && decide (d ≤ o)), 4)) (r := ((((decide (e ≤ a) && decide (a ≤ k)) && (decide (f ≤ b) && decide (b ≤ m))) && (decide (g ≤ c) && decide (c ≤ n))) && (decide (j ≤ d) && decide (d ≤ o))))]
    · have : ((((decide (e ≤ a) && decide (a ≤ k)) && (decide (f ≤ b) && decide (b ≤ m))) && (decide (g ≤ c) && decide (c ≤ n))) && (decide (j ≤ d) && decide (d ≤ o))) = inB [a, b, c, d] [e, f, g, j] [k, m, n, o] := by
        simp [inB, Bool.and_assoc]
      rw [this]
      simp
    · simp only [d04, cond_true, gi0, Option.bind_some, i01]
      cases decide (e ≤ a) <;> rfl
    · simp only [d14, cond_true, gi1, Option.bind_some, i12]
      cases (decide (e ≤ a) && decide (a ≤ k)) <;> cases decide (f ≤ b) <;> rfl
    · simp only [d24, cond_true, gi2, Option.bind_some, i23]
      cases ((decide (e ≤ a) && decide (a ≤ k)) && (decide (f ≤ b) && decide (b ≤ m))) <;> cases decide (g ≤ c) <;> rfl
    · simp only [d34, cond_true, gi3, Option.bind_some, i34]
      cases (((decide (e ≤ a) && decide (a ≤ k)) && (decide (f ≤ b) && decide (b ≤ m))) && (decide (g ≤ c) && decide (c ≤ n))) <;> cases decide (j ≤ d) <;> rfl
    · simp only [d44, cond_false]
  · simp
end Go.Vs
