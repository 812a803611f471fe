/- Plain facts of what the functions compute. -/
import Derived.Test.YtefojfippfoppabGreatExactProbeNearestPure1
set_option linter.unusedVariables false
set_option linter.unusedSimpArgs false
namespace Go.Vs

theorem specIsIn_ok {l : List Int} {k : Int} (h : l.length < 2000000) : M.spec_isIn l k = some (l.any fun x => x == k) := isIn_ok h
def probedF (cs : List (List Int)) (l : List Item) (ks : List Int) : List Item := l.filter fun x => ks.any fun c => c == cenI cs x
theorem filter_or_perm {α : Type} (p q : α → Bool) (l : List α) (h : ∀ x ∈ l, p x = true → q x = false) : (l.filter p ++ l.filter q).Perm (l.filter fun x => p x || q x) := by
  induction l with
  | nil => simp
  | cons x r ih =>
    have ih := ih (fun y hy => h y (by simp [hy]))
    by_cases hp : p x = true
    · have hq := h x (by simp) hp
      rw [List.filter_cons_of_pos hp, List.filter_cons_of_neg (by simp [hq]), List.filter_cons_of_pos (by simp [hp])]
      exact List.Perm.cons x ih
    · simp only [Bool.not_eq_true] at hp
      by_cases hq : q x = true
      · rw [List.filter_cons_of_neg (by simp [hp]), List.filter_cons_of_pos hq, List.filter_cons_of_pos (by simp [hq])]
        exact List.perm_middle.trans (List.Perm.cons x ih)
      · simp only [Bool.not_eq_true] at hq
        rw [List.filter_cons_of_neg (by simp [hp]), List.filter_cons_of_neg (by simp [hq]), List.filter_cons_of_neg (by simp [hp, hq])]
        exact ih
theorem probed_perm (cs : List (List Int)) (l : List Item) : ∀ ks : List Int, ks.Nodup → (ks.flatMap (ofC cs l)).Perm (probedF cs l ks)
  | [], _ => by simp [probedF]
  | c :: r, h => by
    obtain ⟨h1, h2⟩ := List.nodup_cons.1 h
    have ih := probed_perm cs l r h2
    rw [List.flatMap_cons]
    refine (List.Perm.append_left _ ih).trans ?_
    unfold ofC probedF
    have e : (fun x => (c :: r).any fun c => c == cenI cs x) = fun x => (cenI cs x == c) || (r.any fun c => c == cenI cs x) := by
      funext x
      rw [List.any_cons]
      congr 1
      rw [Bool.eq_iff_iff, beq_iff_eq, beq_iff_eq]
      exact ⟨Eq.symm, Eq.symm⟩
    rw [e]
    refine filter_or_perm _ _ l fun x _ hx => ?_
    rw [beq_iff_eq] at hx
    rw [List.any_eq_false]
    intro d hd hdx
    rw [beq_iff_eq] at hdx
    exact h1 (by rw [← hx, ← hdx]; exact hd)
theorem hitsC_keys {cs : List (List Int)} {v : List Int} : ((hitsC cs v).map (·.1)).Nodup := by
  unfold hitsC
  rw [List.map_map, List.Nodup, List.pairwise_map]
  exact List.Pairwise.imp (fun h e => h (by simp only [Function.comp_apply] at e; omega)) List.nodup_range
theorem probeL_nodup {cs : List (List Int)} {v : List Int} {k : Nat} : (probeL cs v k).Nodup := by
  unfold probeL topH
  rw [List.map_take]
  refine List.Nodup.sublist (List.take_sublist _ _) ?_
  exact (((isort_spec (hitsC cs v)).2.map (·.1)).nodup_iff).2 hitsC_keys
theorem foldl_flat {α β : Type} (g : α → List β) (l : List α) : ∀ s : List β, l.foldl (fun s x => s ++ g x) s = s ++ l.flatMap g := by
  induction l with
  | nil => intro s; simp
  | cons x r ih => intro s; rw [List.foldl_cons, ih, List.flatMap_cons, List.append_assoc]
theorem implProbed_ok {cs : List (List Int)} {l : List Item} {v : List Int} {m : Int} (hp : okP cs v m = true) (hl : okStore l = true) : ∃ P, M.impl_probedItems cs l v m = some P ∧ P.Perm (probedF cs l (probeL cs v m.toNat)) := by
  obtain ⟨ho, hv, m1, m4⟩ := okP_iff.1 hp
  obtain ⟨⟨c1, c4⟩, hvec⟩ := okC_iff.1 ho
  have s := okC_small ho
  have sl := okStore_small hl
  obtain ⟨h16, hit, _⟩ := okStore_iff.1 hl
  obtain ⟨mp, e1, e2⟩ := itemsBy_ok s sl (okCl_iff.2 ⟨ho, hl⟩)
  refine ⟨(probeL cs v m.toNat).flatMap (ofC cs l), ?_, probed_perm cs l _ probeL_nodup⟩
  unfold M.impl_probedItems
  have e3 : probeV cs v m = probeL cs v m.toNat := by unfold probeV; rw [if_pos hp]
  have hlen := probeL_len (cs := cs) (v := v) (k := m.toNat)
  simp only [e1, Option.bind_some, implOrder_ok s (vec_len hv), e3]
  refine fold_bind (xs := probeL cs v m.toNat) (fun (s : List Item) i => (s, i)) (fun s c => s ++ ofC cs l c) (fun i s => s.length ≤ 16 * i) (fun s => s) (s0 := []) (by simp) ?_ ?_ ?_
  · rintro s' i hi hs
    have d1 : decide ((i : Int) < ((probeL cs v m.toNat).length : Int)) = true := decide_eq_true (by omega)
    have hol := ofC_len (cs := cs) (l := l) (c := (probeL cs v m.toNat)[i])
    simp only [d1, cond_true, gidx_nat hi, Option.bind_some, e2, w64_succ (i := i) (by omega)]
    rw [gapp_ok (by omega)]
    exact ⟨rfl, by rw [List.length_append]; omega⟩
  · intro s' _; simp
  · intro _; rw [foldl_flat]; simp
def probeNear (cs : List (List Int)) (l : List Item) (v : List Int) (m k : Int) : List Hit :=
  if okP cs v m = true ∧ okQuery l 3 v = true ∧ 1 ≤ k ∧ k ≤ 16 then topH k.toNat (hitsOf (probedF cs l (probeL cs v m.toNat)) 3 v) else []
theorem probedF_sub {cs : List (List Int)} {l : List Item} {ks : List Int} : (probedF cs l ks).Sublist l := List.filter_sublist
theorem implProbeNear_ok {cs : List (List Int)} {l : List Item} {v : List Int} {m k : Int} (s : SmallC cs) (sl : SmallS l) (hv : v.length < 2000000) : M.impl_ProbeNearest cs l v m k = some (probeNear cs l v m k) := by
  unfold M.impl_ProbeNearest probeNear
  simp only [implProbe_ok s hv, Option.bind_some, validSearch_ok sl hv]
  cases hp : okP cs v m with
  | false => simp
  | true =>
    by_cases hq : okQuery l 3 v = true ∧ 1 ≤ k ∧ k ≤ 16
    · obtain ⟨hq1, k1, k16⟩ := id hq
      obtain ⟨hl, _, hvv⟩ := okQuery_iff.1 hq1
      obtain ⟨P, e1, e2⟩ := implProbed_ok hp hl
      obtain ⟨n, rfl⟩ := Int.eq_ofNat_of_zero_le (show 0 ≤ k by omega)
      have hlf : okStore (probedF cs l (probeL cs v m.toNat)) = true := okStore_sub hl probedF_sub
      obtain ⟨f16, fit, fpw⟩ := okStore_iff.1 hlf
      have hd : decide (okQuery l 3 v = true ∧ 1 ≤ (n : Int) ∧ (n : Int) ≤ 16) = true := decide_eq_true hq
      have hn : okQuery l 3 v = true ∧ 1 ≤ (n : Int) ∧ (n : Int) ≤ 16 := hq
      have hnd : (hitsOf P 3 v).Nodup := by
        have := hitsOf_nodup (kind := 3) (at_ := v) fpw
        unfold hitsOf at this ⊢
        exact ((e2.map _).nodup_iff).2 this
      have hamong := implAmong_ok (l := P) (kind := 3) (at_ := v) (n := n) (fun x hx => isItem_vec (fit x (e2.mem_iff.1 hx))) hvv hnd (by rw [e2.length_eq]; exact f16) (by omega)
      have ht : topH n (hitsOf P 3 v) = topH n (hitsOf (probedF cs l (probeL cs v m.toNat)) 3 v) := by
        unfold hitsOf
        exact SameT.perm (e2.map _)
      rw [hd, if_pos ⟨rfl, hn⟩]
      simp only [Bool.not_true, cond_false, Option.bind_some, e1, hamong, ht, Int.toNat_natCast]
    · have hd : decide (okQuery l 3 v = true ∧ 1 ≤ k ∧ k ≤ 16) = false := decide_eq_false hq
      rw [hd, if_neg (fun h => hq h.2)]
      simp
theorem probe_loop {cs : List (List Int)} {l : List Item} {ks : List Int} (ho : okC cs = true) (hl : okStore l = true) (hks : ks.length < 2000000) :
    loopM (fun (s32 : (List (Int × (List Int) × Int)) × (Int)) => (bif decide (s32.2 < (l.length : Int)) then
  Option.bind ((gidx l s32.2).bind fun x38 =>
  (M.spec_centreOf cs x38.2.1).bind fun r48 =>
  (M.spec_isIn ks r48).bind fun r52 =>
  (bif r52 then
  (gidx l s32.2).bind fun x57 =>
  (gapp s32.1 ([(x57.1, x57.2.1, x57.2.2)] : List (Int × (List Int) × Int))).bind fun xs69 =>
  some xs69
 else
  some s32.1)) fun o37 =>
  some (.inl (o37, w64 (s32.2 + 1)))
 else
  some (.inr s32.1))) (([] : List (Int × (List Int) × Int)), 0) = some (probedF cs l ks) := by
  obtain ⟨h16, hit, _⟩ := okStore_iff.1 hl
  have := (loop_fold (xs := l) (fun (s : List Item) i => (s, i)) (fun s x => if (ks.any fun c => c == cenI cs x) = true then s ++ [x] else s) (fun i s => s.length ≤ i) (fin := fun s => s) (f := fun (s32 : (List (Int × (List Int) × Int)) × (Int)) => (bif decide (s32.2 < (l.length : Int)) then
  Option.bind ((gidx l s32.2).bind fun x38 =>
  (M.spec_centreOf cs x38.2.1).bind fun r48 =>
  (M.spec_isIn ks r48).bind fun r52 =>
  (bif r52 then
  (gidx l s32.2).bind fun x57 =>
  (gapp s32.1 ([(x57.1, x57.2.1, x57.2.2)] : List (Int × (List Int) × Int))).bind fun xs69 =>
  some xs69
 else
  some s32.1)) fun o37 =>
  some (.inl (o37, w64 (s32.2 + 1)))
 else
  some (.inr s32.1))) (s0 := []) (by simp) (by
    intro s i hi hs
    have e1 : decide ((i : Int) < (l.length : Int)) = true := decide_eq_true (by omega)
    have hx := isItem_vec (hit _ (List.getElem_mem hi))
    have ec : (cen cs l[i].2.1 : Int) = cenI cs l[i] := rfl
    simp only [e1, cond_true, gidx_nat hi, Option.bind_some, specc_ok ho hx, ec, specIsIn_ok hks, w64_succ (i := i) (by omega)]
    cases hc : (ks.any fun x => x == cenI cs l[i]) with
    | true =>
      simp only [cond_true, if_true]
      rw [gapp_ok (by simp; omega)]
      exact ⟨rfl, by simp; omega⟩
    | false =>
      simp only [cond_false, Option.bind_some, Bool.false_eq_true, if_false]
      exact ⟨trivial, by omega⟩) (by intro s _; simp)).1
  rw [this, foldl_filter]
  rfl
theorem probeL_small {cs : List (List Int)} {v : List Int} {k : Nat} (ho : okC cs = true) : (probeL cs v k).length < 2000000 := by
  rw [probeL_len]
  have := (okC_iff.1 ho).1.2
  omega
theorem specProbeNear_ok {cs : List (List Int)} {l : List Item} {v : List Int} {m k : Int} (s : SmallC cs) (sl : SmallS l) (hv : v.length < 2000000) : M.spec_ProbeNearest cs l v m k = some (probeNear cs l v m k) := by
  unfold M.spec_ProbeNearest probeNear okP
  simp only [specvC_ok s, Option.bind_some, validQuery_ok sl hv, inRange_ok]
  cases ho : okC cs with
  | false => simp
  | true =>
    cases hq : okQuery l 3 v with
    | false => simp
    | true =>
      obtain ⟨hl, _, hvv⟩ := okQuery_iff.1 hq
      by_cases hm : 1 ≤ m ∧ m ≤ 4
      · by_cases hk : 1 ≤ k ∧ k ≤ 16
        · have d1 : decide (1 ≤ m ∧ m ≤ 4) = true := decide_eq_true hm
          have d2 : decide (1 ≤ k ∧ k ≤ 16) = true := decide_eq_true hk
          obtain ⟨n, rfl⟩ := Int.eq_ofNat_of_zero_le (show 0 ≤ k by omega)
          obtain ⟨j, rfl⟩ := Int.eq_ofNat_of_zero_le (show 0 ≤ m by omega)
          have hlf : okStore (probedF cs l (probeL cs v j)) = true := okStore_sub hl probedF_sub
          obtain ⟨f16, fit, _⟩ := okStore_iff.1 hlf
          have hsp := specAmong_ok (l := probedF cs l (probeL cs v j)) (kind := 3) (at_ := v) (k := n) (fun x hx => isItem_vec (fit x hx)) rfl hvv (by omega) (by omega)
          have hsz : (probeL cs v j).length < 2000000 := probeL_small ho
          rw [d1, d2]
          simp only [Bool.not_true, cond_false, Option.bind_some, specp_ok ho hvv (show j ≤ 1000 by omega), probe_loop ho hl hsz, hsp, hvv, Bool.and_self, hk, and_self, if_true, Int.toNat_natCast]
        · have d1 : decide (1 ≤ m ∧ m ≤ 4) = true := decide_eq_true hm
          have d2 : decide (1 ≤ k ∧ k ≤ 16) = false := decide_eq_false hk
          rw [d1, d2]
          simp [hk]
      · have d1 : decide (1 ≤ m ∧ m ≤ 4) = false := decide_eq_false hm
        rw [d1]; simp
theorem probeNear_small {cs : List (List Int)} {l : List Item} {v : List Int} {m k : Int} : (probeNear cs l v m k).length ≤ 16 := by
  unfold probeNear
  split
  · rename_i h
    have := topH_len k.toNat (hitsOf (probedF cs l (probeL cs v m.toNat)) 3 v)
    omega
  · simp
/-! ## What searches cost -/
/-! ## Exact laws -/
theorem law_ExactProbeNearest (cs : List (List Int)) (l : List Item) (v : List Int) (m k : Int) (ha : OkCs cs) (hb : OkIs l) : M.laws_FnExactProbeNearest cs l v m k = some true := by
  unfold M.laws_FnExactProbeNearest
  by_cases hc : 1048576 < (v.length : Int)
  · simp [hc]
  have la : v.length ≤ 1048576 := by omega
  have la' : v.length < 2000000 := by omega
  obtain ⟨s, es, hs⟩ := szC_ok (left := 1048576) ha (by omega) (by omega)
  simp only [hc, decide_false, cond_false, es, Option.bind_some]
  rcases hs with hs | ⟨h0, hle, h1, h2⟩
  · simp [hs]
  have hn : ¬ s < 0 := by omega
  obtain ⟨t, et, ht⟩ := szItemS_ok (left := s) hb.1 (fun x hx => (hb.2 x hx).2.1.1) h0 hle
  simp only [hn, decide_false, cond_false, et, Option.bind_some]
  rcases ht with ht | ⟨g0, g1, g2⟩
  · simp [ht]
  have hm : ¬ t < 0 := by omega
  have sc := smallC_of h1 h2
  have sl : SmallS l := ⟨by omega, g2⟩
  have lm : (probeNear cs l v m k).length < 2000000 := by have := probeNear_small (cs := cs) (l := l) (v := v) (m := m) (k := k); omega
  obtain ⟨p, hp, p1, p2⟩ := markIntSD_ok h1 h2
  obtain ⟨p', hp', p1', p2'⟩ := markItemD_at (k := p) g1 g2 (by omega) (by omega)
  have hn1 : ¬ (p' + (v.length : Int)) < 0 := by omega
  have hn2 : ¬ (1 + 2 * ((probeNear cs l v m k).length : Int)) < 0 := by omega
  simp only [hm, decide_false, cond_false, dIntSS_ok h1 h2, dItemS_ok g1 g2, toIntS_ok la, Option.bind_some, specProbeNear_ok sc sl la', implProbeNear_ok sc sl la', eqHitS_self lm, eqIntS_ok la', decide_true, Bool.not_true, eqIntSS_self sc.1 sc.2, eqItemS_self (show l.length < 2000000 by omega) sl.hb, hp, hp', markIntS_ok (k := p') la' (by omega) (by omega), hn1, markHitS_ok lm one0 one1, heldHitS_ok lm one0 one1, hn2, bne_self_eq_false]
end Go.Vs
