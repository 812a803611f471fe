/- Plain facts of what the functions compute. -/
import Derived.Test.YtefojfippfoppaaGreatProbeNearestMorePure1
set_option linter.unusedVariables false
set_option linter.unusedSimpArgs false
namespace Go.Vs

theorem specIsIn_ok {l : List Int} {k : Int} (h : l.length < 2000000) : M.spec_isIn l k = some (l.any fun x => x == k) := isIn_ok h
def probedF (cs : List (List Int)) (l : List Item) (ks : List Int) : List Item := l.filter fun x => ks.any fun c => c == cenI cs x
theorem filter_or_perm {α : Type} (p q : α → Bool) (l : List α) (h : ∀ x ∈ l, p x = true → q x = false) : (l.filter p ++ l.filter q).Perm (l.filter fun x => p x || q x) := by
  induction l with
  | nil => simp
  | cons x r ih =>
    have ih := ih (fun y hy => h y (by simp [hy]))
    by_cases hp : p x = true
    · have hq := h x (by simp) hp
      rw [List.filter_cons_of_pos hp, List.filter_cons_of_neg (by simp [hq]), List.filter_cons_of_pos (by simp [hp])]
      exact List.Perm.cons x ih
    · simp only [Bool.not_eq_true] at hp
      by_cases hq : q x = true
      · rw [List.filter_cons_of_neg (by simp [hp]), List.filter_cons_of_pos hq, List.filter_cons_of_pos (by simp [hq])]
        exact List.perm_middle.trans (List.Perm.cons x ih)
      · simp only [Bool.not_eq_true] at hq
        rw [List.filter_cons_of_neg (by simp [hp]), List.filter_cons_of_neg (by simp [hq]), List.filter_cons_of_neg (by simp [hp, hq])]
        exact ih
theorem probed_perm (cs : List (List Int)) (l : List Item) : ∀ ks : List Int, ks.Nodup → (ks.flatMap (ofC cs l)).Perm (probedF cs l ks)
  | [], _ => by simp [probedF]
  | c :: r, h => by
    obtain ⟨h1, h2⟩ := List.nodup_cons.1 h
    have ih := probed_perm cs l r h2
    rw [List.flatMap_cons]
    refine (List.Perm.append_left _ ih).trans ?_
    unfold ofC probedF
    have e : (fun x => (c :: r).any fun c => c == cenI cs x) = fun x => (cenI cs x == c) || (r.any fun c => c == cenI cs x) := by
      funext x
      rw [List.any_cons]
      congr 1
      rw [Bool.eq_iff_iff, beq_iff_eq, beq_iff_eq]
      exact ⟨Eq.symm, Eq.symm⟩
    rw [e]
    refine filter_or_perm _ _ l fun x _ hx => ?_
    rw [beq_iff_eq] at hx
    rw [List.any_eq_false]
    intro d hd hdx
    rw [beq_iff_eq] at hdx
    exact h1 (by rw [← hx, ← hdx]; exact hd)
theorem hitsC_keys {cs : List (List Int)} {v : List Int} : ((hitsC cs v).map (·.1)).Nodup := by
  unfold hitsC
  rw [List.map_map, List.Nodup, List.pairwise_map]
  exact List.Pairwise.imp (fun h e => h (by simp only [Function.comp_apply] at e; omega)) List.nodup_range
theorem probeL_nodup {cs : List (List Int)} {v : List Int} {k : Nat} : (probeL cs v k).Nodup := by
  unfold probeL topH
  rw [List.map_take]
  refine List.Nodup.sublist (List.take_sublist _ _) ?_
  exact (((isort_spec (hitsC cs v)).2.map (·.1)).nodup_iff).2 hitsC_keys
theorem foldl_flat {α β : Type} (g : α → List β) (l : List α) : ∀ s : List β, l.foldl (fun s x => s ++ g x) s = s ++ l.flatMap g := by
  induction l with
  | nil => intro s; simp
  | cons x r ih => intro s; rw [List.foldl_cons, ih, List.flatMap_cons, List.append_assoc]
theorem implProbed_ok {cs : List (List Int)} {l : List Item} {v : List Int} {m : Int} (hp : okP cs v m = true) (hl : okStore l = true) : ∃ P, M.impl_probedItems cs l v m = some P ∧ P.Perm (probedF cs l (probeL cs v m.toNat)) := by
  obtain ⟨ho, hv, m1, m4⟩ := okP_iff.1 hp
  obtain ⟨⟨c1, c4⟩, hvec⟩ := okC_iff.1 ho
  have s := okC_small ho
  have sl := okStore_small hl
  obtain ⟨h16, hit, _⟩ := okStore_iff.1 hl
  obtain ⟨mp, e1, e2⟩ := itemsBy_ok s sl (okCl_iff.2 ⟨ho, hl⟩)
  refine ⟨(probeL cs v m.toNat).flatMap (ofC cs l), ?_, probed_perm cs l _ probeL_nodup⟩
  unfold M.impl_probedItems
  have e3 : probeV cs v m = probeL cs v m.toNat := by unfold probeV; rw [if_pos hp]
  have hlen := probeL_len (cs := cs) (v := v) (k := m.toNat)
  simp only [e1, Option.bind_some, implOrder_ok s (vec_len hv), e3]
  refine fold_bind (xs := probeL cs v m.toNat) (fun (s : List Item) i => (s, i)) (fun s c => s ++ ofC cs l c) (fun i s => s.length ≤ 16 * i) (fun s => s) (s0 := []) (by simp) ?_ ?_ ?_
  · rintro s' i hi hs
    have d1 : decide ((i : Int) < ((probeL cs v m.toNat).length : Int)) = true := decide_eq_true (by omega)
    have hol := ofC_len (cs := cs) (l := l) (c := (probeL cs v m.toNat)[i])
    simp only [d1, cond_true, gidx_nat hi, Option.bind_some, e2, w64_succ (i := i) (by omega)]
    rw [gapp_ok (by omega)]
    exact ⟨rfl, by rw [List.length_append]; omega⟩
  · intro s' _; simp
  · intro _; rw [foldl_flat]; simp
def probeNear (cs : List (List Int)) (l : List Item) (v : List Int) (m k : Int) : List Hit :=
  if okP cs v m = true ∧ okQuery l 3 v = true ∧ 1 ≤ k ∧ k ≤ 16 then topH k.toNat (hitsOf (probedF cs l (probeL cs v m.toNat)) 3 v) else []
theorem probedF_sub {cs : List (List Int)} {l : List Item} {ks : List Int} : (probedF cs l ks).Sublist l := List.filter_sublist
theorem implProbeNear_ok {cs : List (List Int)} {l : List Item} {v : List Int} {m k : Int} (s : SmallC cs) (sl : SmallS l) (hv : v.length < 2000000) : M.impl_ProbeNearest cs l v m k = some (probeNear cs l v m k) := by
  unfold M.impl_ProbeNearest probeNear
  simp only [implProbe_ok s hv, Option.bind_some, validSearch_ok sl hv]
  cases hp : okP cs v m with
  | false => simp
  | true =>
    by_cases hq : okQuery l 3 v = true ∧ 1 ≤ k ∧ k ≤ 16
    · obtain ⟨hq1, k1, k16⟩ := id hq
      obtain ⟨hl, _, hvv⟩ := okQuery_iff.1 hq1
      obtain ⟨P, e1, e2⟩ := implProbed_ok hp hl
      obtain ⟨n, rfl⟩ := Int.eq_ofNat_of_zero_le (show 0 ≤ k by omega)
      have hlf : okStore (probedF cs l (probeL cs v m.toNat)) = true := okStore_sub hl probedF_sub
      obtain ⟨f16, fit, fpw⟩ := okStore_iff.1 hlf
      have hd : decide (okQuery l 3 v = true ∧ 1 ≤ (n : Int) ∧ (n : Int) ≤ 16) = true := decide_eq_true hq
      have hn : okQuery l 3 v = true ∧ 1 ≤ (n : Int) ∧ (n : Int) ≤ 16 := hq
      have hnd : (hitsOf P 3 v).Nodup := by
        have := hitsOf_nodup (kind := 3) (at_ := v) fpw
        unfold hitsOf at this ⊢
        exact ((e2.map _).nodup_iff).2 this
      have hamong := implAmong_ok (l := P) (kind := 3) (at_ := v) (n := n) (fun x hx => isItem_vec (fit x (e2.mem_iff.1 hx))) hvv hnd (by rw [e2.length_eq]; exact f16) (by omega)
      have ht : topH n (hitsOf P 3 v) = topH n (hitsOf (probedF cs l (probeL cs v m.toNat)) 3 v) := by
        unfold hitsOf
        exact SameT.perm (e2.map _)
      rw [hd, if_pos ⟨rfl, hn⟩]
      simp only [Bool.not_true, cond_false, Option.bind_some, e1, hamong, ht, Int.toNat_natCast]
    · have hd : decide (okQuery l 3 v = true ∧ 1 ≤ k ∧ k ≤ 16) = false := decide_eq_false hq
      rw [hd, if_neg (fun h => hq h.2)]
      simp
theorem probe_loop {cs : List (List Int)} {l : List Item} {ks : List Int} (ho : okC cs = true) (hl : okStore l = true) (hks : ks.length < 2000000) :
    loopM (fun (s32 : (List (Int × (List Int) × Int)) × (Int)) => (bif decide (s32.2 < (l.length : Int)) then
  Option.bind ((gidx l s32.2).bind fun x38 =>
  (M.spec_centreOf cs x38.2.1).bind fun r48 =>
  (M.spec_isIn ks r48).bind fun r52 =>
  (bif r52 then
  (gidx l s32.2).bind fun x57 =>
  (gapp s32.1 ([(x57.1, x57.2.1, x57.2.2)] : List (Int × (List Int) × Int))).bind fun xs69 =>
  some xs69
 else
  some s32.1)) fun o37 =>
  some (.inl (o37, w64 (s32.2 + 1)))
 else
  some (.inr s32.1))) (([] : List (Int × (List Int) × Int)), 0) = some (probedF cs l ks) := by
  obtain ⟨h16, hit, _⟩ := okStore_iff.1 hl
  have := (loop_fold (xs := l) (fun (s : List Item) i => (s, i)) (fun s x => if (ks.any fun c => c == cenI cs x) = true then s ++ [x] else s) (fun i s => s.length ≤ i) (fin := fun s => s) (f := fun (s32 : (List (Int × (List Int) × Int)) × (Int)) => (bif decide (s32.2 < (l.length : Int)) then
  Option.bind ((gidx l s32.2).bind fun x38 =>
  (M.spec_centreOf cs x38.2.1).bind fun r48 =>
  (M.spec_isIn ks r48).bind fun r52 =>
  (bif r52 then
  (gidx l s32.2).bind fun x57 =>
  (gapp s32.1 ([(x57.1, x57.2.1, x57.2.2)] : List (Int × (List Int) × Int))).bind fun xs69 =>
  some xs69
 else
  some s32.1)) fun o37 =>
  some (.inl (o37, w64 (s32.2 + 1)))
 else
  some (.inr s32.1))) (s0 := []) (by simp) (by
    intro s i hi hs
    have e1 : decide ((i : Int) < (l.length : Int)) = true := decide_eq_true (by omega)
    have hx := isItem_vec (hit _ (List.getElem_mem hi))
    have ec : (cen cs l[i].2.1 : Int) = cenI cs l[i] := rfl
    simp only [e1, cond_true, gidx_nat hi, Option.bind_some, specc_ok ho hx, ec, specIsIn_ok hks, w64_succ (i := i) (by omega)]
    cases hc : (ks.any fun x => x == cenI cs l[i]) with
    | true =>
      simp only [cond_true, if_true]
      rw [gapp_ok (by simp; omega)]
      exact ⟨rfl, by simp; omega⟩
    | false =>
      simp only [cond_false, Option.bind_some, Bool.false_eq_true, if_false]
      exact ⟨trivial, by omega⟩) (by intro s _; simp)).1
  rw [this, foldl_filter]
  rfl
theorem probeL_small {cs : List (List Int)} {v : List Int} {k : Nat} (ho : okC cs = true) : (probeL cs v k).length < 2000000 := by
  rw [probeL_len]
  have := (okC_iff.1 ho).1.2
  omega
theorem specProbeNear_ok {cs : List (List Int)} {l : List Item} {v : List Int} {m k : Int} (s : SmallC cs) (sl : SmallS l) (hv : v.length < 2000000) : M.spec_ProbeNearest cs l v m k = some (probeNear cs l v m k) := by
  unfold M.spec_ProbeNearest probeNear okP
  simp only [specvC_ok s, Option.bind_some, validQuery_ok sl hv, inRange_ok]
  cases ho : okC cs with
  | false => simp
  | true =>
    cases hq : okQuery l 3 v with
    | false => simp
    | true =>
      obtain ⟨hl, _, hvv⟩ := okQuery_iff.1 hq
      by_cases hm : 1 ≤ m ∧ m ≤ 4
      · by_cases hk : 1 ≤ k ∧ k ≤ 16
        · have d1 : decide (1 ≤ m ∧ m ≤ 4) = true := decide_eq_true hm
          have d2 : decide (1 ≤ k ∧ k ≤ 16) = true := decide_eq_true hk
          obtain ⟨n, rfl⟩ := Int.eq_ofNat_of_zero_le (show 0 ≤ k by omega)
          obtain ⟨j, rfl⟩ := Int.eq_ofNat_of_zero_le (show 0 ≤ m by omega)
          have hlf : okStore (probedF cs l (probeL cs v j)) = true := okStore_sub hl probedF_sub
          obtain ⟨f16, fit, _⟩ := okStore_iff.1 hlf
          have hsp := specAmong_ok (l := probedF cs l (probeL cs v j)) (kind := 3) (at_ := v) (k := n) (fun x hx => isItem_vec (fit x hx)) rfl hvv (by omega) (by omega)
          have hsz : (probeL cs v j).length < 2000000 := probeL_small ho
          rw [d1, d2]
          simp only [Bool.not_true, cond_false, Option.bind_some, specp_ok ho hvv (show j ≤ 1000 by omega), probe_loop ho hl hsz, hsp, hvv, Bool.and_self, hk, and_self, if_true, Int.toNat_natCast]
        · have d1 : decide (1 ≤ m ∧ m ≤ 4) = true := decide_eq_true hm
          have d2 : decide (1 ≤ k ∧ k ≤ 16) = false := decide_eq_false hk
          rw [d1, d2]
          simp [hk]
      · have d1 : decide (1 ≤ m ∧ m ≤ 4) = false := decide_eq_false hm
        rw [d1]; simp
theorem probeNear_small {cs : List (List Int)} {l : List Item} {v : List Int} {m k : Int} : (probeNear cs l v m k).length ≤ 16 := by
  unfold probeNear
  split
  · rename_i h
    have := topH_len k.toNat (hitsOf (probedF cs l (probeL cs v m.toNat)) 3 v)
    omega
  · simp
theorem drawProbe_ok (code : List UInt8) : ∃ cs l v m k, M.spec_DrawProbeNearest code = some (cs, l, v, m, k) ∧ NearC cs ∧ NearS l ∧ Near v ∧ 0 ≤ m ∧ m ≤ 5 := by
  obtain ⟨⟨r1, r2⟩, h, g⟩ := newReader_ok code
  obtain ⟨cs, ⟨q1, q2⟩, h1, g1, n⟩ := anyCentres_ok (by omega) g
  obtain ⟨l, ⟨w1, w2⟩, h2, g2, nl⟩ := anyStore_ok (by omega) g1
  obtain ⟨v, ⟨t1, t2⟩, h3, g3, nv⟩ := any_ok (by omega) g2
  obtain ⟨m, ⟨u1, u2⟩, h4, g4, hm⟩ := one_ok (by omega) g3 (list := [1, 2, 3, 4, 0, 5, 1]) (by simp)
  obtain ⟨k, ⟨y1, y2⟩, h5, _, _⟩ := one_ok (by omega) g4 (list := [1, 2, 3, 5, 16, 4, 0, 17]) (by simp)
  refine ⟨cs, l, v, m, k, by unfold M.spec_DrawProbeNearest M.spec_someK; simp only [h, h1, h2, h3, h4, h5, Option.bind_some], n, nl, nv, ?_⟩
  simp at hm; omega
theorem top_head {k : Nat} {L : List Hit} (hk : 1 ≤ k) (h : L ≠ []) : ∃ mn r, topH k L = mn :: r ∧ mn ∈ L ∧ ∀ y ∈ L, ltH y mn = false := by
  obtain ⟨mn, h1, h2, h3⟩ := topH_one h
  rw [topH_take (j := 1) (k := k) hk] at h1
  cases hh : topH k L with
  | nil => rw [hh] at h1; simp at h1
  | cons a r =>
    rw [hh] at h1
    simp only [List.take_succ_cons, List.take_zero, List.cons.injEq, and_true] at h1
    subst h1
    exact ⟨a, r, rfl, h2, h3⟩
theorem probedF_mono {cs : List (List Int)} {l : List Item} {ks js : List Int} (h : ∀ c ∈ ks, c ∈ js) : ∀ x ∈ probedF cs l ks, x ∈ probedF cs l js := by
  intro x hx
  obtain ⟨h1, h2⟩ := List.mem_filter.1 hx
  refine List.mem_filter.2 ⟨h1, ?_⟩
  rw [List.any_eq_true] at h2 ⊢
  obtain ⟨c, hc, hcx⟩ := h2
  exact ⟨c, h c hc, hcx⟩
theorem probedF_len {cs : List (List Int)} {l : List Item} {ks js : List Int} (h : ∀ c ∈ ks, c ∈ js) : (probedF cs l ks).length ≤ (probedF cs l js).length := by
  unfold probedF
  rw [← List.countP_eq_length_filter, ← List.countP_eq_length_filter]
  refine List.countP_mono_left fun x _ hx => ?_
  rw [List.any_eq_true] at hx ⊢
  obtain ⟨c, hc, hcx⟩ := hx
  exact ⟨c, h c hc, hcx⟩
theorem probeL_mono {cs : List (List Int)} {v : List Int} {j k : Nat} (h : j ≤ k) : ∀ c ∈ probeL cs v j, c ∈ probeL cs v k := by
  intro c hc
  unfold probeL at hc ⊢
  rw [topH_take h, List.map_take] at hc
  exact List.mem_of_mem_take hc
theorem law_ProbeNearestMore (code : List UInt8) : M.laws_FnProbeNearestMore code = some true := by
  unfold M.laws_FnProbeNearestMore
  by_cases hc : 1048576 < (code.length : Int)
  · simp [hc]
  obtain ⟨cs, l, v, m, k, h, n, nl, nv, m0, m5⟩ := drawProbe_ok code
  have s := n.small
  have sl := nl.small
  have la : v.length < 2000000 := by have := nv.1; omega
  have hsm := fun m => probeNear_small (cs := cs) (l := l) (v := v) (m := m) (k := k)
  have hs1 : (probeNear cs l v m k).length < 2000000 := by have := hsm m; omega
  simp only [hc, decide_false, cond_false, h, Option.bind_some, implProbeNear_ok s sl la, specProbeNear_ok s sl la, equalHits_ok hs1, decide_true, Bool.not_true]
  by_cases h0 : ((probeNear cs l v m k).length : Int) = 0
  · simp only [h0, beq_self_eq_true, cond_true, Option.bind_some]
  have e0 : (((probeNear cs l v m k).length : Int) == 0) = false := by simpa using h0
  by_cases h4 : m = 4
  · subst h4
    simp only [e0, cond_false, beq_self_eq_true, Option.bind_some, cond_true]
  have e4 : (m == 4) = false := by simpa using h4
  have hcond : okP cs v m = true ∧ okQuery l 3 v = true ∧ 1 ≤ k ∧ k ≤ 16 := by
    unfold probeNear at h0
    split at h0
    · assumption
    · exact absurd rfl h0
  obtain ⟨hp, hq, k1, k16⟩ := hcond
  obtain ⟨ho, hv, m1, m4⟩ := okP_iff.1 hp
  have ew : w64 (m + 1) = m + 1 := w64_id (by omega) (by omega)
  have hp' : okP cs v (m + 1) = true := okP_iff.2 ⟨ho, hv, by omega, by omega⟩
  have e1 : probeNear cs l v m k = topH k.toNat (hitsOf (probedF cs l (probeL cs v m.toNat)) 3 v) := by unfold probeNear; rw [if_pos ⟨hp, hq, k1, k16⟩]
  have e2 : probeNear cs l v (m + 1) k = topH k.toNat (hitsOf (probedF cs l (probeL cs v (m + 1).toNat)) 3 v) := by unfold probeNear; rw [if_pos ⟨hp', hq, k1, k16⟩]
  have hmono := probeL_mono (cs := cs) (v := v) (show m.toNat ≤ (m + 1).toNat by omega)
  have hlen := probedF_len (cs := cs) (l := l) hmono
  have l1 := topH_len k.toNat (hitsOf (probedF cs l (probeL cs v m.toNat)) 3 v)
  have l2 := topH_len k.toNat (hitsOf (probedF cs l (probeL cs v (m + 1).toNat)) 3 v)
  rw [hitsOf_len] at l1 l2
  have d1 : decide (((probeNear cs l v m k).length : Int) ≤ ((probeNear cs l v (m + 1) k).length : Int)) = true := decide_eq_true (by rw [e1, e2]; omega)
  have hne : hitsOf (probedF cs l (probeL cs v m.toNat)) 3 v ≠ [] := by
    intro hh
    apply h0
    rw [e1, hh]
    simp [topH, isort]
  have hsub : ∀ y ∈ hitsOf (probedF cs l (probeL cs v m.toNat)) 3 v, y ∈ hitsOf (probedF cs l (probeL cs v (m + 1).toNat)) 3 v := by
    intro y hy
    obtain ⟨x, hx, rfl⟩ := hitsOf_mem.1 hy
    exact hitsOf_mem.2 ⟨x, probedF_mono hmono x hx, rfl⟩
  have hne2 : hitsOf (probedF cs l (probeL cs v (m + 1).toNat)) 3 v ≠ [] := by
    intro hh
    obtain ⟨y, hy⟩ := List.exists_mem_of_ne_nil _ hne
    have := hsub y hy
    rw [hh] at this; simp at this
  obtain ⟨a, r, f1, f2, _⟩ := top_head (k := k.toNat) (by omega) hne
  obtain ⟨b, r', g1, _, g3⟩ := top_head (k := k.toNat) (by omega) hne2
  have hab := g3 a (hsub a f2)
  rw [ltH_false] at hab
  have d2 : decide (b.2 ≤ a.2) = true := decide_eq_true (by omega)
  have i1 : gidx (probeNear cs l v (m + 1) k) 0 = some b := by rw [e2, g1]; rfl
  have i2 : gidx (probeNear cs l v m k) 0 = some a := by rw [e1, f1]; rfl
  simp only [e0, cond_false, e4, Option.bind_some, ew, implProbeNear_ok s sl la, d1, cond_true, i1, i2, d2]

/-! ## What searches cost -/
/-! ## Exact laws -/
end Go.Vs
