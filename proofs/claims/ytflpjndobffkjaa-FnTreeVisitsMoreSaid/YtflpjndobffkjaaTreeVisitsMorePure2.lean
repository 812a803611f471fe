/- Plain facts of what the functions compute. -/
import Derived.Test.YtflpjndobffkjaaTreeVisitsMorePure1
set_option linter.unusedVariables false
set_option linter.unusedSimpArgs false
namespace Go.Vs

theorem reachH_range {k : Nat} (hk : 1 ≤ k) {V : List Hit} (h : ∀ x ∈ V, 0 ≤ x.2 ∧ x.2 < 1000000) : 0 ≤ reachH k V ∧ reachH k V ≤ 1000000 := by
  by_cases hl : (topH k V).length < k
  · unfold reachH; rw [if_pos hl]; omega
  · unfold reachH
    rw [if_neg hl, List.getD_eq_getElem?_getD, List.getElem?_eq_getElem (by omega)]
    have := h _ (topH_sub k V _ (List.getElem_mem (show k - 1 < (topH k V).length by omega)))
    simp only [Option.getD_some]
    omega
theorem specReach_ok {L : List Nod} {l : List Item} {kd : Int} {v : List Int} {k : Nat} (hk : 1 ≤ k) (hk2 : k ≤ 1000) {V : List Hit} {n : Int} : M.spec_seek_reach (L, l, kd, v, (k : Int), topH k V, n) = some (reachH k V) := by
  unfold M.spec_seek_reach reachH
  have hl := topH_len k V
  by_cases h : (topH k V).length < k
  · have e : decide (((topH k V).length : Int) < (k : Int)) = true := decide_eq_true (by omega)
    simp only [e, cond_true, if_pos h]
  · have e : decide (((topH k V).length : Int) < (k : Int)) = false := decide_eq_false (by omega)
    have e2 : w64 (((topH k V).length : Int) - 1) = ((k - 1 : Nat) : Int) := by rw [w64_id (by omega) (by omega)]; omega
    have hlt : k - 1 < (topH k V).length := by omega
    simp only [e, cond_false, if_neg h, e2, gidx_nat hlt, Option.bind_some, List.getD_eq_getElem?_getD, List.getElem?_eq_getElem hlt, Option.getD_some]
theorem keyAt_mem {l : List Item} (hl : l.length < 2000000) (hp : l.Pairwise (fun x y => x.1 < y.1)) {x : Item} (hx : x ∈ l) : ∃ i : Nat, M.spec_keyAt l x.1 = some (i : Int) ∧ gidx l (i : Int) = some x := by
  obtain ⟨i, hi, rfl⟩ := List.getElem_of_mem hx
  have : l.findIdx? (fun y => y.1 == l[i].1) = some i := by
    rw [List.findIdx?_eq_some_iff_getElem]
    refine ⟨hi, by simp, fun j hj => ?_⟩
    have := List.pairwise_iff_getElem.1 hp _ _ (by omega) hi hj
    simp; omega
  exact ⟨i, by rw [keyAt_ok hl, this], gidx_nat hi⟩
theorem addTop_ok {k : Nat} (hk : k ≤ 1000) {V : List Hit} (x : Hit) : M.spec_addHit (topH k V) (x.1, x.2) (k : Int) = some (topH k (V ++ [x])) := by
  rw [addHit_ok (topH_asc k V) (by rw [topH_len]; omega) hk, topH_snoc]
theorem seek_ok {L : List Nod} {l : List Item} {kd : Int} {v : List Int} {k : Nat} (ho : okStore l = true) (ht : isTK kd = true) (hv : isVec v = true) (hk : 1 ≤ k) (hk2 : k ≤ 1000) :
    ∀ (f : Nat) (t : Tr Item) (a : Nat) (s : List Hit × Nat), t.size < f → GoodT kd t → (∀ y ∈ itemsT t, y ∈ l) → Sub L t a → (∀ h ∈ s.1, 0 ≤ h.2 ∧ h.2 < 1000000) → s.2 + t.size ≤ 1000000 →
    M.spec_seek_visit f (L, l, kd, v, (k : Int), topH k s.1, (s.2 : Int)) (bif t.isNil then -1 else (a : Int)) = some (L, l, kd, v, (k : Int), topH k (srch kd v k t s).1, ((srch kd v k t s).2 : Int))
  | 0, t, _, _, h, _, _, _, _, _ => by omega
  | f + 1, .nil, a, s, _, _, _, _, _, _ => by
    show M.spec_seek_visit_F (M.spec_seek_visit f) _ _ = _
    unfold M.spec_seek_visit_F
    simp [Tr.isNil, srch]
  | f + 1, .node x q l' r', a, s, hf, hg, hs, hS, hr, hn => by
    have hkd := isTK_kind ht
    obtain ⟨_, _, hpw⟩ := okStore_iff.1 ho
    have sm := okStore_small ho
    have hgg := hg
    obtain ⟨hx, hl, hrr, _, q0, q1, gl, gr⟩ := hg
    simp only [Tr.size] at hf hn
    have hxl : x ∈ l := hs x (by simp [itemsT])
    obtain ⟨i, hi1, hi2⟩ := keyAt_mem sm.hL hpw hxl
    have dr := dist_range hkd hx hv
    have p1 : ∀ h ∈ s.1 ++ [hitV kd v x], 0 ≤ h.2 ∧ h.2 < 1000000 := fun y hy => by
      rcases List.mem_append.1 hy with hy | hy
      · exact hr y hy
      · rw [List.mem_singleton] at hy; subst hy; exact dr
    have e1 : decide ((a : Int) < 0) = false := decide_eq_false (by omega)
    have e2 : w64 ((s.2 : Int) + 1) = ((s.2 + 1 : Nat) : Int) := w64_succ (by omega)
    have il := fun s' h1 h2 => seek_ok ho ht hv hk hk2 f l' (a + 1) s' (by omega) gl (fun y hy => hs y (by simp [itemsT, hy])) hS.left h1 h2
    have ir := fun s' h1 h2 => seek_ok ho ht hv hk hk2 f r' (a + 1 + l'.size) s' (by omega) gr (fun y hy => hs y (by simp [itemsT, hy])) hS.right h1 h2
    show M.spec_seek_visit_F (M.spec_seek_visit f) _ _ = _
    unfold M.spec_seek_visit_F
    have hadd := addTop_ok (k := k) (V := s.1) hk2 (hitV kd v x)
    simp only [hitV] at hadd
    have hnil : (Tr.node x q l' r').isNil = false := rfl
    simp only [hnil, cond_false, e1, hS.gidx, Option.bind_some, hi1, hi2, specDist_vec hkd hx hv, hadd, e2]
    by_cases hd : dist kd x.2.1 v ≤ q
    · have a1 := il (s.1 ++ [hitV kd v x], s.2 + 1) p1 (by simp only; omega)
      have b1 := srch_range (k := k) hkd hv l' (s.1 ++ [hitV kd v x], s.2 + 1) gl p1
      have c1 := srch_num (kd := kd) (v := v) (k := k) l' (s.1 ++ [hitV kd v x], s.2 + 1)
      simp only [hitV] at a1 b1 c1
      obtain ⟨s2, es⟩ : ∃ s2, srch kd v k l' (s.1 ++ [(x.1, dist kd x.2.1 v)], s.2 + 1) = s2 := ⟨_, rfl⟩
      rw [es] at a1 b1 c1
      simp only [hd, decide_true, cond_true, a1, Option.bind_some, specReach_ok hk hk2]
      simp only [srch, hd, if_true, hitV, es]
      have rr := reachH_range hk b1
      rw [w64_id (by omega) (by omega)]
      by_cases hq : q ≤ dist kd x.2.1 v + reachH k s2.1
      · have a2 := ir s2 b1 (by omega)
        have hq' : q - dist kd x.2.1 v ≤ reachH k s2.1 := by omega
        simp only [hq, decide_true, cond_true, a2, Option.bind_some, hq', if_true]
      · have hq' : ¬ q - dist kd x.2.1 v ≤ reachH k s2.1 := by omega
        simp only [hq, decide_false, cond_false, hq', if_false]
    · have a1 := ir (s.1 ++ [hitV kd v x], s.2 + 1) p1 (by simp only; omega)
      have b1 := srch_range (k := k) hkd hv r' (s.1 ++ [hitV kd v x], s.2 + 1) gr p1
      have c1 := srch_num (kd := kd) (v := v) (k := k) r' (s.1 ++ [hitV kd v x], s.2 + 1)
      simp only [hitV] at a1 b1 c1
      obtain ⟨s2, es⟩ : ∃ s2, srch kd v k r' (s.1 ++ [(x.1, dist kd x.2.1 v)], s.2 + 1) = s2 := ⟨_, rfl⟩
      rw [es] at a1 b1 c1
      simp only [hd, decide_false, cond_false, a1, Option.bind_some, specReach_ok hk hk2]
      simp only [srch, hd, if_false, hitV, es]
      have rr := reachH_range hk b1
      rw [w64_id (by omega) (by omega)]
      by_cases hq : dist kd x.2.1 v - reachH k s2.1 ≤ q
      · have a2 := il s2 b1 (by omega)
        have hq' : dist kd x.2.1 v - q ≤ reachH k s2.1 := by omega
        simp only [hq, decide_true, cond_true, a2, Option.bind_some, hq', if_true]
      · have hq' : ¬ dist kd x.2.1 v - q ≤ reachH k s2.1 := by omega
        simp only [hq, decide_false, cond_false, hq', if_false]
theorem specSearch_ok {l : List Item} {kd : Int} {v : List Int} {k : Nat} (ho : okStore l = true) (ht : isTK kd = true) (hv : isVec v = true) (hk : 1 ≤ k) (hk2 : k ≤ 1000) :
    ∃ L, M.spec_search l kd v (k : Int) = some (L, l, kd, v, (k : Int), topH k (srch kd v k (treeF kd 100 l) ([], 0)).1, ((srch kd v k (treeF kd 100 l) ([], 0)).2 : Int)) := by
  have hkd := isTK_kind ht
  have hol := okL_of ho
  have h16 := hol.len
  have e := (specGrow_ok hkd (fun a b _ _ => dist_comm kd a b) 100 l [] (by omega) hol (by simp; omega)).1
  have hgood := treeF_good hkd 100 l (by omega) hol
  have hsz := tree_size hkd hol
  unfold M.spec_search
  simp only [e, Option.bind_some, List.nil_append, List.length_nil]
  by_cases h0 : 0 < l.length
  · have e1 : decide (0 < (l.length : Int)) = true := decide_eq_true (by omega)
    have hn : (treeF kd 100 l).isNil = false := by rw [treeF_isNil (by omega)]; exact decide_eq_false (by omega)
    have := seek_ok (L := nodesT (treeF kd 100 l) 0) ho ht hv hk hk2 100 (treeF kd 100 l) 0 ([], 0) (by omega) hgood.1 (fun y hy => hgood.2.mem_iff.1 hy) (sub_self _) (by simp) (by simp only; omega)
    have t0 : topH k [] = [] := List.eq_nil_of_length_eq_zero (by rw [topH_len]; simp)
    simp only [hn, cond_false, t0, Int.natCast_zero, Int.cast_ofNat_Int] at this
    simp only [e1, cond_true, this, Option.bind_some]
    exact ⟨_, rfl⟩
  · have e1 : decide (0 < (l.length : Int)) = false := decide_eq_false (by omega)
    have hl : l = [] := List.eq_nil_of_length_eq_zero (by omega)
    subst hl
    have t0 : topH k [] = [] := List.eq_nil_of_length_eq_zero (by rw [topH_len]; simp)
    simp only [e1, cond_false, Option.bind_some, treeF_nil, srch, t0]
    exact ⟨_, rfl⟩

/-! ## The program's search -/
abbrev Turn := Tr Item × Int
noncomputable def stepS (kd : Int) (v : List Int) (k : Nat) (e : Turn) (s : List Hit × Nat) : List Hit × Nat := if e.1.isNil = true ∨ reachH k s.1 < e.2 then s else srch kd v k e.1 s
noncomputable def runS (kd : Int) (v : List Int) (k : Nat) (st : List Turn) (s : List Hit × Nat) : List Hit × Nat := st.foldr (stepS kd v k) s
theorem runS_snoc {kd : Int} {v : List Int} {k : Nat} {st : List Turn} {e : Turn} {s : List Hit × Nat} : runS kd v k (st ++ [e]) s = runS kd v k st (stepS kd v k e s) := by simp [runS]
theorem runS_two {kd : Int} {v : List Int} {k : Nat} {st : List Turn} {e f : Turn} {s : List Hit × Nat} : runS kd v k (st ++ [e, f]) s = runS kd v k st (stepS kd v k e (stepS kd v k f s)) := by simp [runS]
theorem implReach_ok {k : Nat} (hk : 1 ≤ k) {V kept : List Hit} (hh : HP kept.length kept) (hp : kept.Perm (topH k V)) : M.impl_nearestHits_reach ((k : Int), kept) = some (reachH k V) := by
  unfold M.impl_nearestHits_reach
  have hl := hp.length_eq
  have hkl := topH_len k V
  by_cases h : (topH k V).length < k
  · have e : decide ((kept.length : Int) < (k : Int)) = true := decide_eq_true (by omega)
    unfold reachH
    simp only [e, cond_true, if_pos h]
  · have e : decide ((kept.length : Int) < (k : Int)) = false := decide_eq_false (by omega)
    obtain ⟨he, hle⟩ := topH_last hk h
    have h0 : 0 < kept.length := by omega
    have g0 : gidx kept 0 = some kept[0] := gidx_nat (i := 0) h0
    simp only [e, cond_false, g0, Option.bind_some]
    have hmem : kept[0] ∈ topH k V := hp.mem_iff.1 (List.getElem_mem h0)
    have a1 := hle _ hmem
    have hlast : (topH k V)[k - 1] ∈ kept := hp.mem_iff.2 (List.getElem_mem (by omega))
    obtain ⟨i, hi, hie⟩ := List.mem_iff_getElem.1 hlast
    have a2 := hh.top i hi
    rw [el_lt h0, el_lt hi, hie, ltH_false] at a2
    have a3 : reachH k V = (topH k V)[k - 1].2 := by
      unfold reachH
      rw [if_neg h, List.getD_eq_getElem?_getD, List.getElem?_eq_getElem (by omega)]
      rfl
    congr 1
    omega
theorem turns_ok {x : Item} {q : Int} {l r : Tr Item} {d : Int} (q0 : 0 ≤ q) (q1 : q < 1000000) (d0 : 0 ≤ d) (d1 : d < 1000000) :
    M.impl_branch_turns (.node x q l r) d = some (if d ≤ q then ((l, 0), (r, q - d)) else ((r, 0), (l, d - q))) := by
  unfold M.impl_branch_turns
  have hg : Tr.get (Tr.node x q l r) = some (x, q, l, r) := rfl
  simp only [hg, Option.bind_some]
  by_cases h : d ≤ q
  · simp only [h, decide_true, cond_true, if_true]
    rw [w64_id (by omega) (by omega)]
  · simp only [h, decide_false, cond_false, if_false]
    rw [w64_id (by omega) (by omega)]
def wtS (st : List Turn) : Nat := (st.map fun e => e.1.size).sum
noncomputable def searchF (kind_1 : Int) (at_2 : List Int) (s9 : ((Int) × (List (Int × Int))) × (Int) × (List ((Tr (Int × (List Int) × Int)) × Int))) : Option ((((Int) × (List (Int × Int))) × (Int) × (List ((Tr (Int × (List Int) × Int)) × Int))) ⊕ ((Int × List (Int × Int)) × Int)) :=
  (bif decide (0 < (s9.2.2.length : Int)) then
  (gidx s9.2.2 (w64 ((s9.2.2.length : Int) - 1))).bind fun x16 =>
  (gslice s9.2.2 0 (w64 ((s9.2.2.length : Int) - 1))).bind fun xs28 =>
  Option.bind ((bif x16.1.isNil then
  some true
 else
  (M.impl_nearestHits_reach (s9.1.1, s9.1.2)).bind fun r40 =>
  some (decide (r40 < x16.2)))) fun o35 =>
  (bif o35 then
  some (.inl ((s9.1.1, s9.1.2), s9.2.1, xs28))
 else
  (Tr.get x16.1).bind fun x47 =>
  (M.impl_hitOf (x47.1.1, x47.1.2.1, x47.1.2.2) kind_1 at_2).bind fun r57 =>
  (M.impl_nearestHits_offer (s9.1.1, s9.1.2) (r57.1, r57.2)).bind fun r65 =>
  (M.impl_branch_turns x16.1 r57.2).bind fun r73 =>
  (gapp xs28 ([(r73.2.1, r73.2.2), (r73.1.1, r73.1.2)] : List ((Tr (Int × (List Int) × Int)) × Int))).bind fun xs89 =>
  some (.inl ((r65.1, r65.2), w64 (s9.2.1 + 1), xs89)))
 else
  some (.inr ((s9.1.1, s9.1.2), s9.2.1)))
theorem stepS_two {kd : Int} {v : List Int} {k : Nat} (hkd : isKind kd = true) (hv : isVec v = true) (hk : 1 ≤ k) {x : Item} {q : Int} {l r : Tr Item} {s : List Hit × Nat} (hg : GoodT kd (.node x q l r)) (hr : ∀ h ∈ s.1, 0 ≤ h.2 ∧ h.2 < 1000000) :
    stepS kd v k (if dist kd x.2.1 v ≤ q then (r, q - dist kd x.2.1 v) else (l, dist kd x.2.1 v - q)) (stepS kd v k (if dist kd x.2.1 v ≤ q then (l, 0) else (r, 0)) (s.1 ++ [hitV kd v x], s.2 + 1)) = srch kd v k (.node x q l r) s := by
  obtain ⟨hx, _⟩ := hg
  have dr := dist_range hkd hx hv
  have p1 : ∀ h ∈ s.1 ++ [hitV kd v x], 0 ≤ h.2 ∧ h.2 < 1000000 := fun y hy => by
    rcases List.mem_append.1 hy with hy | hy
    · exact hr y hy
    · rw [List.mem_singleton] at hy; subst hy; exact dr
  have first : ∀ t : Tr Item, stepS kd v k (t, 0) (s.1 ++ [hitV kd v x], s.2 + 1) = srch kd v k t (s.1 ++ [hitV kd v x], s.2 + 1) := by
    intro t
    unfold stepS
    have := (reachH_range hk p1).1
    cases t with
    | nil => simp [Tr.isNil, srch]
    | node y q2 l2 r2 => rw [if_neg]; simp only [Tr.isNil]; simp; omega
  have second : ∀ (t : Tr Item) (m : Int) (s2 : List Hit × Nat), stepS kd v k (t, m) s2 = if m ≤ reachH k s2.1 then srch kd v k t s2 else s2 := by
    intro t m s2
    unfold stepS
    cases t with
    | nil => simp [Tr.isNil, srch]
    | node y q2 l2 r2 =>
      by_cases h : m ≤ reachH k s2.1
      · rw [if_pos h, if_neg]; simp [Tr.isNil]; omega
      · rw [if_neg h, if_pos]; simp [Tr.isNil]; omega
  unfold srch
  by_cases hd : dist kd x.2.1 v ≤ q
  · simp only [hd, if_true, first, second]
  · simp only [hd, if_false, first, second]
theorem search_loop {kd : Int} {v : List Int} {k : Nat} (ht : isTK kd = true) (hv : isVec v = true) (hk : 1 ≤ k) (hk2 : k ≤ 1000) :
    ∀ (m : Nat) (st : List Turn) (s : List Hit × Nat) (kept : List Hit), 2 * wtS st + st.length ≤ m → (∀ e ∈ st, GoodT kd e.1) → HP kept.length kept → kept.Perm (topH k s.1) → (∀ h ∈ s.1, 0 ≤ h.2 ∧ h.2 < 1000000) → s.2 + wtS st ≤ 1000000 → st.length + wtS st ≤ 1000000 →
    ∃ kept', loopM (searchF kd v) (((k : Int), kept), (s.2 : Int), st) = some (((k : Int), kept'), ((runS kd v k st s).2 : Int)) ∧ HP kept'.length kept' ∧ kept'.Perm (topH k (runS kd v k st s).1) := by
  have hkd := isTK_kind ht
  intro m
  induction m with
  | zero =>
    intro st s kept h0 hg hh hp hr _ _
    have : st = [] := List.eq_nil_of_length_eq_zero (by omega)
    subst this
    refine ⟨kept, ?_, hh, hp⟩
    rw [loopM_eq]
    simp [searchF, selim, runS]
  | succ m ih =>
    intro st s kept h0 hg hh hp hr hn1 hn2
    rcases List.eq_nil_or_concat st with rfl | ⟨st0, e, rfl⟩
    · refine ⟨kept, ?_, hh, hp⟩
      rw [loopM_eq]
      simp [searchF, selim, runS]
    rw [List.concat_eq_append] at *
    obtain ⟨t, least⟩ := e
    have hw : wtS (st0 ++ [(t, least)]) = wtS st0 + t.size := by simp [wtS]
    have hlen : (st0 ++ [(t, least)]).length = st0.length + 1 := by simp
    rw [hw, hlen] at h0
    rw [hw] at hn1
    rw [hw, hlen] at hn2
    rw [loopM_eq]
    have e1 : decide (0 < ((st0 ++ [(t, least)]).length : Int)) = true := decide_eq_true (by omega)
    have e2 : w64 (((st0 ++ [(t, least)]).length : Int) - 1) = (st0.length : Int) := by rw [hlen, w64_id (by omega) (by omega)]; omega
    have g1 : gidx (st0 ++ [(t, least)]) (st0.length : Int) = some (t, least) := by
      have := mid_get st0 [] (t, least)
      simpa using this
    have g2 : gslice (st0 ++ [(t, least)]) 0 (st0.length : Int) = some st0 := by
      rw [gslice_ok (by omega) (by omega) (by omega)]; simp
    have hg0 : ∀ e ∈ st0, GoodT kd e.1 := fun e he => hg e (by simp [he])
    have hgt : GoodT kd t := hg (t, least) (by simp)
    have hskip : t.isNil = true ∨ reachH k s.1 < least → ∃ kept', loopM (searchF kd v) (((k : Int), kept), (s.2 : Int), st0) = some (((k : Int), kept'), ((runS kd v k (st0 ++ [(t, least)]) s).2 : Int)) ∧ HP kept'.length kept' ∧ kept'.Perm (topH k (runS kd v k (st0 ++ [(t, least)]) s).1) := by
      intro h
      have : runS kd v k (st0 ++ [(t, least)]) s = runS kd v k st0 s := by
        rw [runS_snoc]; unfold stepS; rw [if_pos h]
      rw [this]
      exact ih st0 s kept (by omega) hg0 hh hp hr (by omega) (by omega)
    conv in searchF kd v _ => unfold searchF
    simp only [e1, cond_true, e2, g1, g2, Option.bind_some, implReach_ok hk hh hp]
    cases t with
    | nil =>
      have : (Tr.nil : Tr Item).isNil = true := rfl
      simp only [this, cond_true, Option.bind_some, selim]
      exact hskip (.inl rfl)
    | node x q l r =>
      have hnil : (Tr.node x q l r).isNil = false := rfl
      have hget : Tr.get (Tr.node x q l r) = some (x, q, l, r) := rfl
      simp only [hnil, cond_false, Option.bind_some]
      by_cases hrl : reachH k s.1 < least
      · simp only [hrl, decide_true, cond_true, selim]
        exact hskip (.inr hrl)
      · have hgg := hgt
        obtain ⟨hx, _, _, _, q0, q1, gl, gr⟩ := hgt
        have dr := dist_range hkd hx hv
        have p1 : ∀ h ∈ s.1 ++ [hitV kd v x], 0 ≤ h.2 ∧ h.2 < 1000000 := fun y hy => by
          rcases List.mem_append.1 hy with hy | hy
          · exact hr y hy
          · rw [List.mem_singleton] at hy; subst hy; exact dr
        obtain ⟨kept1, o1, o2, o3⟩ := offer_ok hk2 (topH_asc k s.1) (by rw [topH_len]; omega) hh hp (hitV kd v x)
        rw [← topH_snoc] at o3
        simp only [hitV] at o1
        simp only [hrl, decide_false, cond_false, hget, Option.bind_some, hitOf_ok hx hv, o1, turns_ok q0 q1 dr.1 dr.2]
        simp only [Tr.size] at h0 hn1 hn2
        have e3 : w64 ((s.2 : Int) + 1) = ((s.2 + 1 : Nat) : Int) := w64_succ (by omega)
        have hrun : runS kd v k (st0 ++ [(Tr.node x q l r, least)]) s = runS kd v k (st0 ++ [(if dist kd x.2.1 v ≤ q then (r, q - dist kd x.2.1 v) else (l, dist kd x.2.1 v - q)), (if dist kd x.2.1 v ≤ q then (l, 0) else (r, 0))]) (s.1 ++ [hitV kd v x], s.2 + 1) := by
          rw [runS_snoc, runS_two, stepS_two hkd hv hk hgg hr]
          unfold stepS
          rw [if_neg (by simp only [hnil]; simp; omega)]
        rw [hrun]
        by_cases hd : dist kd x.2.1 v ≤ q
        · simp only [hd, if_true]
          rw [gapp_ok (by simp; omega)]
          simp only [Option.bind_some, e3, selim]
          have := ih (st0 ++ [(r, q - dist kd x.2.1 v), (l, 0)]) (s.1 ++ [hitV kd v x], s.2 + 1) kept1 (by simp [wtS] at *; omega) (fun e he => by
            simp only [List.mem_append, List.mem_cons, List.not_mem_nil, or_false] at he
            rcases he with he | rfl | rfl
            · exact hg0 e he
            · exact gr
            · exact gl) o2 o3 p1 (by simp [wtS] at *; omega) (by simp [wtS] at *; omega)
          exact this
        · simp only [hd, if_false]
          rw [gapp_ok (by simp; omega)]
          simp only [Option.bind_some, e3, selim]
          have := ih (st0 ++ [(l, dist kd x.2.1 v - q), (r, 0)]) (s.1 ++ [hitV kd v x], s.2 + 1) kept1 (by simp [wtS] at *; omega) (fun e he => by
            simp only [List.mem_append, List.mem_cons, List.not_mem_nil, or_false] at he
            rcases he with he | rfl | rfl
            · exact hg0 e he
            · exact gl
            · exact gr) o2 o3 p1 (by simp [wtS] at *; omega) (by simp [wtS] at *; omega)
          exact this
theorem implSearch_ok {kd : Int} {v : List Int} {k : Nat} (ht : isTK kd = true) (hv : isVec v = true) (hk : 1 ≤ k) (hk2 : k ≤ 1000) {t : Tr Item} (hg : GoodT kd t) (hs : t.size ≤ 1000) :
    ∃ kept, M.impl_searchTree t kd v (k : Int) = some (((k : Int), kept), ((srch kd v k t ([], 0)).2 : Int)) ∧ kept.Perm (topH k (srch kd v k t ([], 0)).1) := by
  have t0 : topH k [] = [] := List.eq_nil_of_length_eq_zero (by rw [topH_len]; simp)
  obtain ⟨kept, h1, h2, h3⟩ := search_loop ht hv hk hk2 (2 * t.size + 1) [(t, 0)] ([], 0) [] (by simp [wtS]) (by simpa using hg) (fun i _ h => by simp at h) (by rw [t0]) (by simp) (by simp [wtS]; omega) (by simp [wtS]; omega)
  have hrun : runS kd v k [(t, 0)] ([], 0) = srch kd v k t ([], 0) := by
    unfold runS stepS
    have : reachH k [] = 1000000 := by unfold reachH; rw [if_pos (by rw [t0]; simp; omega)]
    simp only [List.foldr_cons, List.foldr_nil, this]
    cases t with
    | nil => simp [Tr.isNil, srch]
    | node x q l r => simp [Tr.isNil]
  rw [hrun] at h1 h3
  refine ⟨kept, ?_, h3⟩
  show (loopM (searchF kd v) (((k : Int), []), ((0 : Nat) : Int), [(t, 0)])).bind _ = _
  rw [h1]
  rfl

/-! ## What is answered -/
noncomputable def treeVisits (l : List Item) (kd : Int) (v : List Int) (k : Int) : Int :=
  if okQuery l kd v = true ∧ isTK kd = true ∧ 1 ≤ k ∧ k ≤ 16 then (vis kd v k.toNat (treeF kd 100 l) [] : Int) else -1
theorem implVisits_ok {l : List Item} {kd : Int} {v : List Int} {k : Int} (s : SmallS l) (hv : v.length < 2000000) : M.impl_TreeVisits l kd v k = some (treeVisits l kd v k) := by
  unfold M.impl_TreeVisits treeVisits
  simp only [implTK_ok, Option.bind_some, validSearch_ok s hv]
  cases ht : isTK kd with
  | false => simp
  | true =>
    by_cases hq : okQuery l kd v = true ∧ 1 ≤ k ∧ k ≤ 16
    · obtain ⟨hq1, h1, h2⟩ := hq
      obtain ⟨ho, hkd, hvv⟩ := okQuery_iff.1 hq1
      have hol := okL_of ho
      obtain ⟨g1, g2⟩ := treeF_good hkd 100 l (by have := hol.len; omega) hol
      have hsz := tree_size hkd hol
      have h16 := hol.len
      obtain ⟨n, rfl⟩ := Int.eq_ofNat_of_zero_le (show 0 ≤ k by omega)
      obtain ⟨kept, e1, _⟩ := implSearch_ok (k := n) ht hvv (by omega) (by omega) g1 (by omega)
      simp only [hq1, h1, h2, and_self, decide_true, Bool.not_true, cond_false, Option.bind_some, implGrow_ok hkd 100 l (by omega) hol, e1, if_true, Int.toNat_natCast]
      rw [srch_vis ht hvv (by omega) _ _ [] g1 (SameT.refl _ _)]
      simp
    · have : ¬ (okQuery l kd v = true ∧ True ∧ 1 ≤ k ∧ k ≤ 16) := by simpa using hq
      simp only [hq, decide_false, Bool.not_false, Bool.not_true, cond_false, cond_true, Option.bind_some, this, if_false]
theorem specVisits_ok {l : List Item} {kd : Int} {v : List Int} {k : Int} (s : SmallS l) (hv : v.length < 2000000) : M.spec_TreeVisits l kd v k = some (treeVisits l kd v k) := by
  unfold M.spec_TreeVisits treeVisits
  simp only [specTK_ok, Option.bind_some, validQuery_ok s hv, inRange_ok]
  cases hq1 : okQuery l kd v with
  | false => simp
  | true =>
    cases ht : isTK kd with
    | false => simp
    | true =>
      by_cases hk : 1 ≤ k ∧ k ≤ 16
      · obtain ⟨h1, h2⟩ := hk
        obtain ⟨ho, hkd, hvv⟩ := okQuery_iff.1 hq1
        have hol := okL_of ho
        obtain ⟨g1, g2⟩ := treeF_good hkd 100 l (by have := hol.len; omega) hol
        obtain ⟨n, rfl⟩ := Int.eq_ofNat_of_zero_le (show 0 ≤ k by omega)
        obtain ⟨L, e1⟩ := specSearch_ok (k := n) ho ht hvv (by omega) (by omega)
        simp only [h1, h2, and_self, decide_true, Bool.not_true, cond_false, Option.bind_some, e1, if_true, Int.toNat_natCast]
        rw [srch_vis ht hvv (by omega) _ _ [] g1 (SameT.refl _ _)]
        simp
      · simp only [hk, decide_false, Bool.not_false, Bool.not_true, cond_false, cond_true, Option.bind_some, and_false, if_false]
end Go.Vs

namespace Go.Vs

theorem treeVisits_pos {l : List Item} {kd : Int} {v : List Int} {k : Int} (h : ¬ treeVisits l kd v k < 1) : okQuery l kd v = true ∧ isTK kd = true ∧ 1 ≤ k ∧ k ≤ 16 ∧ treeVisits l kd v k = (vis kd v k.toNat (treeF kd 100 l) [] : Int) := by
  unfold treeVisits at h ⊢
  split at h
  · rename_i hq
    exact ⟨hq.1, hq.2.1, hq.2.2.1, hq.2.2.2, by rw [if_pos hq]⟩
  · omega
theorem treeVisits_of {l : List Item} {kd : Int} {v : List Int} {k : Int} (hq : okQuery l kd v = true) (ht : isTK kd = true) (h1 : 1 ≤ k) (h2 : k ≤ 16) : treeVisits l kd v k = (vis kd v k.toNat (treeF kd 100 l) [] : Int) := by
  unfold treeVisits; rw [if_pos ⟨hq, ht, h1, h2⟩]
theorem drawVisits_ok (code : List UInt8) : ∃ l kind at_ k, M.spec_DrawTreeVisits code = some (l, kind, at_, k) ∧ NearS l ∧ Near at_ ∧ 0 ≤ k ∧ k ≤ 17 := by
  obtain ⟨l, kind, at_, k, h, n, na, h0, h1⟩ := drawNearest_ok code
  exact ⟨l, kind, at_, k, by unfold M.spec_DrawTreeVisits; simp only [h, Option.bind_some], n, na, h0, h1⟩
theorem tree_facts {l : List Item} {kd : Int} (ho : okStore l = true) (ht : isTK kd = true) : GoodT kd (treeF kd 100 l) ∧ (itemsT (treeF kd 100 l)).Perm l ∧ (treeF kd 100 l).size = l.length ∧ l.length ≤ 16 ∧ (0 < l.length → (treeF kd 100 l).isNil = false) := by
  have hkd := isTK_kind ht
  have hol := okL_of ho
  have h16 := hol.len
  obtain ⟨g1, g2⟩ := treeF_good hkd 100 l (by omega) hol
  exact ⟨g1, g2, tree_size hkd hol, h16, fun h => by rw [treeF_isNil (by omega)]; exact decide_eq_false (by omega)⟩
theorem law_TreeVisitsMore (code : List UInt8) : M.laws_FnTreeVisitsMore code = some true := by
  unfold M.laws_FnTreeVisitsMore
  by_cases hc : 1048576 < (code.length : Int)
  · simp [hc]
  obtain ⟨l, kd, v, k, h, n, nv, h0, h17⟩ := drawVisits_ok code
  have s := n.small
  have la : v.length < 2000000 := by have := nv.1; omega
  simp only [hc, decide_false, cond_false, h, Option.bind_some, implVisits_ok s la, specVisits_ok s la, bne_self_eq_false]
  by_cases h1 : treeVisits l kd v k < 1
  · simp only [h1, decide_true, cond_true, beq_self_eq_true, Option.bind_some]
  simp only [h1, decide_false, cond_false]
  by_cases h2 : k = 16
  · simp only [h2, beq_self_eq_true, cond_true, Option.bind_some]
  have e2 : (k == 16) = false := by simpa using h2
  obtain ⟨hq, ht, k1, k2, e⟩ := treeVisits_pos h1
  obtain ⟨ho, hkd, hv⟩ := okQuery_iff.1 hq
  have ew : w64 (k + 1) = k + 1 := w64_id (by omega) (by omega)
  obtain ⟨g1, _⟩ := tree_facts ho ht
  simp only [e2, cond_false, ew, Option.bind_some, Option.some.injEq, decide_eq_true_eq]
  rw [e, treeVisits_of hq ht (by omega) (by omega)]
  have := vis_mono (k := k.toNat) hkd hv (by omega) (treeF kd 100 l) [] g1 (by simp)
  have hk : (k + 1).toNat = k.toNat + 1 := by omega
  rw [hk]; omega
/-! ## Exact laws -/
end Go.Vs
