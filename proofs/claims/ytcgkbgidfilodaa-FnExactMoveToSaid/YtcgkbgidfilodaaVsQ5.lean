/- Items that are put and dropped. -/
import Derived.Test.YtcgkbgidfilodaaVsQ2
import Derived.Test.YtcgkbgidfilodaaLibM7
set_option linter.unusedVariables false
set_option linter.unusedSimpArgs false
namespace Go.Vs

/-- Lists that ascend are one if they have the same items. -/
theorem sorted_uniq {l m : List Item} (hl : l.Pairwise (fun x y => x.1 < y.1)) (hm : m.Pairwise (fun x y => x.1 < y.1)) (h : ∀ x, x ∈ l ↔ x ∈ m) : l = m := by
  induction l generalizing m with
  | nil =>
    cases m with
    | nil => rfl
    | cons y m => exact absurd ((h y).2 (by simp)) (by simp)
  | cons x l ih =>
    cases m with
    | nil => exact absurd ((h x).1 (by simp)) (by simp)
    | cons y m =>
      rw [List.pairwise_cons] at hl hm
      have hxy : x = y := by
        rcases List.mem_cons.1 ((h x).1 (by simp)) with e | hx
        · exact e
        · rcases List.mem_cons.1 ((h y).2 (by simp)) with e | hy
          · exact e.symm
          · have h1 := hl.1 y hy
            have h2 := hm.1 x hx
            omega
      subst hxy
      rw [ih hl.2 hm.2 (fun z => ?_)]
      constructor
      · intro hz
        rcases List.mem_cons.1 ((h z).1 (by simp [hz])) with e | hz'
        · subst e; have := hl.1 z hz; omega
        · exact hz'
      · intro hz
        rcases List.mem_cons.1 ((h z).2 (by simp [hz])) with e | hz'
        · subst e; have := hm.1 z hz; omega
        · exact hz'
theorem mem_putS {l : List Item} {x y : Item} : y ∈ putS l x ↔ y = x ∨ (y ∈ l ∧ y.1 ≠ x.1) := by
  unfold putS
  simp only [List.mem_append, List.mem_cons, List.mem_filter, decide_eq_true_eq]
  constructor
  · rintro (⟨h1, h2⟩ | h | ⟨h1, h2⟩)
    · exact .inr ⟨h1, by omega⟩
    · exact .inl h
    · exact .inr ⟨h1, by omega⟩
  · rintro (h | ⟨h1, h2⟩)
    · exact .inr (.inl h)
    · rcases Int.lt_or_lt_of_ne h2 with h3 | h3
      · exact .inl ⟨h1, h3⟩
      · exact .inr (.inr ⟨h1, h3⟩)
/-- Items up to a key. -/
theorem filter_lt {l : List Item} {k : Int} (hp : l.Pairwise (fun x y => x.1 < y.1)) : l.filter (fun y => decide (y.1 < k)) = l.take (placeS l k) := by
  induction l with
  | nil => rfl
  | cons x l ih =>
    rw [List.pairwise_cons] at hp
    unfold placeS at ih ⊢
    rw [List.filter_cons, List.countP_cons]
    by_cases hx : x.1 < k
    · simp [hx, ih hp.2]
    · have h0 : l.countP (fun x => decide (x.1 < k)) = 0 := by
        rw [List.countP_eq_zero]; intro y hy; have := hp.1 y hy; simp; omega
      have h1 := ih hp.2
      rw [h0] at h1 ⊢
      simp [hx, h1]
theorem filter_gt {l : List Item} {k : Int} (hp : l.Pairwise (fun x y => x.1 < y.1)) : l.filter (fun y => decide (k < y.1)) = l.drop (placeS l k + if (l.any fun x => x.1 == k) = true then 1 else 0) := by
  induction l with
  | nil => rfl
  | cons x l ih =>
    rw [List.pairwise_cons] at hp
    have ih := ih hp.2
    unfold placeS at ih ⊢
    rw [List.filter_cons, List.countP_cons, List.any_cons]
    by_cases hx : x.1 < k
    · have h2 : ¬ k < x.1 := by omega
      have h3 : (x.1 == k) = false := beq_eq_false_iff_ne.2 (by omega)
      simp only [hx, h2, h3, decide_true, decide_false, Bool.false_eq_true, if_false, if_true, Bool.false_or, ih]
      rw [show List.countP (fun x => decide (x.1 < k)) l + 1 + (if (l.any fun x => x.1 == k) = true then 1 else 0) = (List.countP (fun x => decide (x.1 < k)) l + (if (l.any fun x => x.1 == k) = true then 1 else 0)) + 1 by omega, List.drop_succ_cons]
    · have h0 : l.countP (fun x => decide (x.1 < k)) = 0 := by
        rw [List.countP_eq_zero]; intro y hy; have := hp.1 y hy; simp; omega
      have hall : l.filter (fun y => decide (k < y.1)) = l := by
        rw [List.filter_eq_self]; intro y hy; have := hp.1 y hy; simp; omega
      rw [h0, hall]
      by_cases hk : x.1 = k
      · have h2 : ¬ k < x.1 := by omega
        simp [hk]
      · have h2 : k < x.1 := by omega
        have h3 : (x.1 == k) = false := beq_eq_false_iff_ne.2 hk
        have h4 : (l.any fun x => x.1 == k) = false := by
          rw [List.any_eq_false]; intro y hy; have := hp.1 y hy; simp; omega
        simp [hx, h2, h3, h4]
theorem putS_found {l : List Item} {x : Item} (hp : l.Pairwise (fun x y => x.1 < y.1)) (h : (l.any fun y => y.1 == x.1) = true) : putS l x = l.set (placeS l x.1) x := by
  obtain ⟨hlt, _, _⟩ := place_get hp h
  unfold putS
  rw [filter_lt hp, filter_gt hp, if_pos h, List.set_eq_take_append_cons_drop, if_pos hlt]
theorem putS_new {l : List Item} {x : Item} (hp : l.Pairwise (fun x y => x.1 < y.1)) (h : (l.any fun y => y.1 == x.1) = false) : putS l x = l.take (placeS l x.1) ++ x :: l.drop (placeS l x.1) := by
  unfold putS
  rw [filter_lt hp, filter_gt hp, h]; rfl

theorem copyItems_ok {l : List Item} (h : SmallS l) : M.impl_copyItems l = some l := by
  unfold M.impl_copyItems
  rw [gmake_ok (by omega) (by have := h.1; omega)]
  simp only [Option.bind_some, Int.toNat_natCast]
  rw [copy_loop (a := l) (g := fun x => M.impl_copyItem (x.1, x.2.1, x.2.2)) h.1 (fun x hx' => implCopy_ok (h.2 x hx'))]
  · rfl
  · intro s i hi hi' hg
    have e1 : decide ((i : Int) < (l.length : Int)) = true := decide_eq_true (by omega)
    simp only [e1, cond_true, gidx_nat hi, gidx_nat hi', Option.bind_some, hg, w64_succ (i := i) (by have := h.1; omega), Int.toNat_natCast]
  · intro s; simp
theorem gcopyAt_mid {α : Type} {A B ys : List α} {n i : Nat} (hA : A.length = i) : gcopyAt (A ++ B) i n ys = A ++ (ys.take n ++ B.drop (min n ys.length)) := by
  subst hA
  unfold gcopyAt
  rw [List.take_left, List.drop_append, List.drop_eq_nil_of_le (by omega), Nat.add_sub_cancel_left, List.nil_append]
theorem insert_ok {s : List Item} {x : Item} {i : Nat} (hi : i ≤ s.length) (hl : s.length ≤ 1000000) : M.slices_Insert_impl_Item_impl_Item s (i : Int) [x] = some (s.take i ++ x :: s.drop i) := by
  unfold M.slices_Insert_impl_Item_impl_Item
  have g1 : gslice s (i : Int) (s.length : Int) = some (s.drop i) := by
    rw [gslice_ok (by omega) (by omega) (by omega)]; simp
  have e1 : ((([x] : List Item).length : Int) == 0) = false := rfl
  simp only [g1, e1, cond_false, Option.bind_some]
  by_cases hc : i = s.length
  · have e2 : ((i : Int) == (s.length : Int)) = true := beq_iff_eq.2 (by omega)
    simp only [e2, cond_true]
    rw [gapp_ok (by simp; omega)]
    simp [hc]
  · have e2 : ((i : Int) == (s.length : Int)) = false := beq_eq_false_iff_ne.2 (by omega)
    have e3 : w64 ((s.length : Int) + (([x] : List Item).length : Int)) = ((s.length + 1 : Nat) : Int) := w64_id (by simp; omega) (by simp; omega)
    have e4 : decide ((s.length : Int) < ((s.length + 1 : Nat) : Int)) = true := decide_eq_true (by omega)
    have g2 : gslice s 0 (i : Int) = some (s.take i) := by
      rw [gslice_ok (by omega) (by omega) (by omega)]; simp
    have e5 : w64 (((s.length + 1 : Nat) : Int) - (i : Int)) = ((s.length + 1 - i : Nat) : Int) := by rw [w64_id (by omega) (by omega)]; omega
    have g3 : gappz (s.take i) ((s.length + 1 - i : Nat) : Int) ((0, [], 0) : Item) = some (s.take i ++ List.replicate (s.length + 1 - i) ((0, [], 0) : Item)) := by
      unfold gappz; rw [if_pos (by simp; omega)]; simp
    simp only [e2, cond_false, e3, e4, cond_true, g2, e5, g3, Option.bind_some]
    have hA : (s.take i).length = i := by rw [List.length_take]; omega
    have hL : (s.take i ++ List.replicate (s.length + 1 - i) ((0, [], 0) : Item)).length = s.length + 1 := by simp; omega
    have g4 : gslice (s.take i ++ List.replicate (s.length + 1 - i) ((0, [], 0) : Item)) (i : Int) ((s.take i ++ List.replicate (s.length + 1 - i) ((0, [], 0) : Item)).length : Int) = some (List.replicate (s.length + 1 - i) ((0, [], 0) : Item)) := by
      rw [gslice_ok (by omega) (by omega) (by omega)]
      simp only [Int.toNat_natCast, List.take_length]
      rw [List.drop_append_of_le_length (by simp; omega), List.drop_eq_nil_of_le (by simp; omega), List.nil_append]
    have c1 : gcopyAt (s.take i ++ List.replicate (s.length + 1 - i) ((0, [], 0) : Item)) ((i : Int)).toNat (List.replicate (s.length + 1 - i) ((0, [], 0) : Item)).length [x] = s.take i ++ x :: List.replicate (s.length - i) ((0, [], 0) : Item) := by
      rw [Int.toNat_natCast, gcopyAt_mid hA, List.take_of_length_le (l := [x]) (by simp; omega), List.drop_replicate]
      have : s.length + 1 - i - min (List.replicate (s.length + 1 - i) ((0, [], 0) : Item)).length ([x] : List Item).length = s.length - i := by
        simp only [List.length_replicate, List.length_cons, List.length_nil]; omega
      rw [this]; rfl
    have hL2 : (s.take i ++ x :: List.replicate (s.length - i) ((0, [], 0) : Item)).length = s.length + 1 := by simp; omega
    have e6 : w64 ((i : Int) + (([x] : List Item).length : Int)) = ((i + 1 : Nat) : Int) := w64_id (by simp; omega) (by simp; omega)
    have g5 : gslice (s.take i ++ x :: List.replicate (s.length - i) ((0, [], 0) : Item)) ((i + 1 : Nat) : Int) ((s.take i ++ x :: List.replicate (s.length - i) ((0, [], 0) : Item)).length : Int) = some (List.replicate (s.length - i) ((0, [], 0) : Item)) := by
      rw [gslice_ok (by omega) (by omega) (by omega)]
      simp only [Int.toNat_natCast, List.take_length]
      rw [List.drop_append, List.drop_eq_nil_of_le (by simp; omega)]
      have : i + 1 - (s.take i).length = 1 := by simp; omega
      rw [this]; simp
    simp only [g4, c1, e6, g5, Option.bind_some]
    congr 1
    have hA2 : (s.take i ++ [x]).length = i + 1 := by rw [List.length_append, hA]; rfl
    have := gcopyAt_mid (A := s.take i ++ [x]) (B := List.replicate (s.length - i) ((0, [], 0) : Item)) (ys := s.drop i) (n := (List.replicate (s.length - i) ((0, [], 0) : Item)).length) hA2
    rw [List.append_assoc, List.singleton_append] at this
    rw [Int.toNat_natCast, this, List.take_of_length_le (l := s.drop i) (by simp), List.drop_eq_nil_of_le (as := List.replicate (s.length - i) ((0, [], 0) : Item)) (by simp)]
    simp
theorem implPutItem_ok {l : List Item} {x : Item} (h : SmallS l) (hx : x.2.1.length ≤ 1048576) : M.impl_PutItem l (x.1, x.2.1, x.2.2) = some (putItem l x) := by
  unfold M.impl_PutItem putItem
  simp only [h.impl, implItem_ok (x := x) (by omega), Option.bind_some]
  cases h1 : okStore l with
  | false => simp
  | true =>
    cases h2 : isItem x with
    | false => simp
    | true =>
      obtain ⟨hl, hi, hp⟩ := okStore_iff.1 h1
      simp only [Bool.not_true, cond_false, Option.bind_some, placeOf_ok h1, true_and]
      cases ha : l.any (fun y => y.1 == x.1) with
      | true =>
        obtain ⟨hlt, _, _⟩ := place_get hp ha
        simp only [cond_true, copyItems_ok h, implCopy_ok hx, gidx_nat hlt, Option.bind_some, Int.toNat_natCast, putS_found hp ha, List.length_set]
        rw [if_pos hl]
      | false =>
        simp only [cond_false]
        have hpl := placeS_le (l := l) (k := x.1)
        rw [putS_new hp ha]
        have hlen : (l.take (placeS l x.1) ++ x :: l.drop (placeS l x.1)).length = l.length + 1 := by simp; omega
        rw [hlen]
        by_cases h16 : l.length = 16
        · have e : ((l.length : Int) == 16) = true := beq_iff_eq.2 (by omega)
          simp only [e, cond_true]
          rw [if_neg (by omega)]
        · have e : ((l.length : Int) == 16) = false := beq_eq_false_iff_ne.2 (by omega)
          simp only [e, cond_false, copyItems_ok h, implCopy_ok hx, Option.bind_some, insert_ok (x := x) hpl (by omega)]
          rw [if_pos (by omega)]
def dropS (l : List Item) (k : Int) : List Item := l.filter (fun x => x.1 != k)
theorem mem_dropS {l : List Item} {k : Int} {x : Item} : x ∈ dropS l k ↔ x ∈ l ∧ x.1 ≠ k := by unfold dropS; rw [List.mem_filter]; simp
theorem dropS_sub {l : List Item} {k : Int} : (dropS l k).Sublist l := List.filter_sublist
def dropItem (l : List Item) (k : Int) : List Item × Bool := if okStore l = true ∧ (l.any fun x => x.1 == k) = true then (dropS l k, true) else ([], false)
theorem specDropItem_ok {l : List Item} {k : Int} (h : SmallS l) : M.spec_DropItem l k = some (dropItem l k) := by
  unfold M.spec_DropItem dropItem
  simp only [h.specv, Option.bind_some, keyAt_ok h.hL]
  cases h1 : okStore l with
  | false => simp
  | true =>
    obtain ⟨hl, hi, hp⟩ := okStore_iff.1 h1
    have he : (l.any fun x => x.1 == k) = (l.findIdx? fun x => x.1 == k).isSome := by
      rw [Bool.eq_iff_iff, List.any_eq_true, List.findIdx?_isSome, List.any_eq_true]
    rw [he]
    cases hf : l.findIdx? (fun x => x.1 == k) with
    | none => simp
    | some i =>
      have e1 : decide ((i : Int) < 0) = false := decide_eq_false (by omega)
      simp only [Bool.not_true, cond_false, Option.bind_some, e1, Option.isSome_some, and_self, if_true]
      refine fold_bind (xs := l) (fun s i => (s, i)) (fun s y => if (y.1 != k) = true then s ++ [y] else s) (fun i s => s.length ≤ i) (fun s => s) (by simp) ?_ ?_ ?_
      · intro s i h hs
        have e1 : decide ((i : Int) < (l.length : Int)) = true := decide_eq_true (by omega)
        simp only [e1, cond_true, gidx_nat h, Option.bind_some, w64_succ (i := i) (by omega)]
        cases hk : l[i].1 != k with
        | true =>
          simp only [cond_true, copyItem_spec (x := l[i]) (by have := isItem_len (hi _ (List.getElem_mem h)); omega), Option.bind_some, if_true]
          rw [gapp_ok (by simp; omega)]
          exact ⟨by first | rfl | trivial, by simp; omega⟩
        | false => exact ⟨by first | rfl | trivial, by simp only [Bool.false_eq_true, if_false]; omega⟩
      · intro s _; simp
      · intro _
        rw [foldl_filter]; simp [dropS]
/-- Without the item at a place. -/
theorem drop_filter {l : List Item} {k : Int} (hp : l.Pairwise (fun x y => x.1 < y.1)) (h : (l.any fun x => x.1 == k) = true) : l.take (placeS l k) ++ l.drop (placeS l k + 1) = dropS l k := by
  have h1 := filter_lt (k := k) hp
  have h2 := filter_gt (k := k) hp
  rw [if_pos h] at h2
  rw [← h1, ← h2]
  refine sorted_uniq ?_ (hp.sublist dropS_sub) (fun x => ?_)
  · rw [List.pairwise_append]
    refine ⟨hp.sublist List.filter_sublist, hp.sublist List.filter_sublist, fun y hy z hz => ?_⟩
    have h3 : y.1 < k := by simpa using (List.mem_filter.1 hy).2
    have h4 : k < z.1 := by simpa using (List.mem_filter.1 hz).2
    omega
  · simp only [List.mem_append, List.mem_filter, decide_eq_true_eq, mem_dropS]
    constructor
    · rintro (⟨h1, h2⟩ | ⟨h1, h2⟩) <;> exact ⟨h1, by omega⟩
    · rintro ⟨h1, h2⟩
      rcases Int.lt_or_lt_of_ne h2 with h3 | h3
      · exact .inl ⟨h1, h3⟩
      · exact .inr ⟨h1, h3⟩
theorem implDropItem_ok {l : List Item} {k : Int} (h : SmallS l) : M.impl_DropItem l k = some (dropItem l k) := by
  unfold M.impl_DropItem dropItem
  simp only [h.impl, Option.bind_some]
  cases h1 : okStore l with
  | false => simp
  | true =>
    obtain ⟨hl, hi, hp⟩ := okStore_iff.1 h1
    simp only [Bool.not_true, cond_false, placeOf_ok h1, Option.bind_some]
    cases ha : l.any (fun x => x.1 == k) with
    | false => simp
    | true =>
      obtain ⟨hlt, _, _⟩ := place_get hp ha
      simp only [Bool.not_true, cond_false, copyItems_ok h, Option.bind_some, and_self, if_true]
      unfold M.slices_Delete_impl_Item_impl_Item
      have e1 : w64 ((placeS l k : Int) + 1) = ((placeS l k + 1 : Nat) : Int) := w64_succ (by omega)
      have e2 : ((placeS l k : Int) == ((placeS l k + 1 : Nat) : Int)) = false := beq_eq_false_iff_ne.2 (by omega)
      have g0 : gthree (placeS l k : Int) ((placeS l k + 1 : Nat) : Int) (l.length : Int) l.length = some () := by
        unfold gthree; rw [if_pos (by omega)]
      have g1 : gslice l 0 (placeS l k : Int) = some (l.take (placeS l k)) := by
        rw [gslice_ok (by omega) (by omega) (by omega)]; simp
      have g2 : gslice l ((placeS l k + 1 : Nat) : Int) (l.length : Int) = some (l.drop (placeS l k + 1)) := by
        rw [gslice_ok (by omega) (by omega) (by omega)]; simp
      simp only [e1, g0, e2, cond_false, g1, g2, Option.bind_some]
      rw [gapp_ok (by simp; omega)]
      simp only [Option.bind_some, drop_filter hp ha]

/-! ## What is drawn -/
theorem drawPut_ok (code : List UInt8) : ∃ l x, M.spec_DrawPutItem code = some (l, x.1, x.2.1, x.2.2) ∧ NearS l ∧ NearI x := by
  obtain ⟨r, h, g⟩ := newReader_ok code
  obtain ⟨l, r1, h1, g1, n⟩ := anyStore_ok (by omega) g
  obtain ⟨x, r2, h2, _, n2⟩ := anyItem_ok (by omega) g1
  exact ⟨l, x, by unfold M.spec_DrawPutItem; simp only [h, h1, h2, Option.bind_some], n, n2⟩
theorem NearI.le {x : Item} (h : NearI x) : x.2.1.length ≤ 1048576 := by have := h.2.1.1; omega
/-- What is put. -/
theorem putItem_some {l : List Item} {x : Item} (h : (putItem l x).2 = true) : okStore l = true ∧ isItem x = true ∧ (putS l x).length ≤ 16 ∧ putItem l x = (putS l x, true) ∧ okStore (putS l x) = true := by
  unfold putItem at h ⊢
  split at h
  · rename_i hc
    rw [if_pos hc]
    exact ⟨hc.1, hc.2.1, hc.2.2, rfl, by rw [putS_okStore hc.1 hc.2.1]; simpa using hc.2.2⟩
  · cases h
theorem putItem_of {l : List Item} {x : Item} (h1 : okStore l = true) (h2 : isItem x = true) (h3 : (putS l x).length ≤ 16) : putItem l x = (putS l x, true) := by
  unfold putItem; rw [if_pos ⟨h1, h2, h3⟩]
theorem putItem_small {l : List Item} {x : Item} : SmallS (putItem l x).1 := by
  cases h : (putItem l x).2 with
  | true => obtain ⟨_, _, _, e, ho⟩ := putItem_some h; rw [e]; exact okStore_small ho
  | false =>
    unfold putItem at h ⊢
    split at h
    · cases h
    · rename_i hc; rw [if_neg hc]; exact okStore_small okStore_nil
theorem putS_le {l : List Item} {x : Item} (hp : l.Pairwise (fun x y => x.1 < y.1)) : l.length ≤ (putS l x).length := by
  cases ha : l.any (fun y => y.1 == x.1) with
  | true => rw [putS_found hp ha, List.length_set]; omega
  | false => rw [putS_new hp ha]; simp; omega
theorem find_key0 {l : List Item} {x : Item} (hp : l.Pairwise (fun x y => x.1 < y.1)) (hx : x ∈ l) : l.find? (fun y => y.1 == x.1) = some x := by
  obtain ⟨i, hi, rfl⟩ := List.getElem_of_mem hx
  rw [List.find?_eq_some_iff_getElem]
  refine ⟨by simp, i, hi, rfl, fun j hj => ?_⟩
  have := List.pairwise_iff_getElem.1 hp _ _ (by omega) hi hj
  simp; omega
theorem find_mem {l : List Item} {x : Item} (ho : okStore l = true) (hx : x ∈ l) : getItem l x.1 = (x, true) := by
  unfold getItem
  rw [if_pos ho, find_key0 (okStore_iff.1 ho).2.2 hx]
theorem find_none {l : List Item} {k : Int} (ho : okStore l = true) (hx : ∀ x ∈ l, x.1 ≠ k) : getItem l k = (zItem, false) := by
  unfold getItem
  have : l.find? (fun y => y.1 == k) = none := by
    rw [List.find?_eq_none]; intro x h; simpa using hx x h
  rw [if_pos ho, this]
/-- What is got is in the store. -/
theorem getItem_some {l : List Item} {k : Int} {x : Item} (h : getItem l k = (x, true)) : okStore l = true ∧ x ∈ l ∧ x.1 = k := by
  unfold getItem at h
  split at h
  · rename_i ho
    split at h
    · rename_i y hf
      cases h
      exact ⟨ho, List.mem_of_find?_eq_some hf, by simpa using List.find?_some hf⟩
    · cases h
  · cases h
theorem getItem_small {l : List Item} {k : Int} (s : SmallS l) : (getItem l k).1.2.1.length ≤ 1048576 := by
  unfold getItem
  split
  · split
    · rename_i x hx; exact s.2 x (List.mem_of_find?_eq_some hx)
    · simp [zItem]
  · simp [zItem]

section
variable {code : List UInt8}
theorem law_PutItem (code : List UInt8) : M.laws_FnPutItem code = some true := by
  unfold M.laws_FnPutItem
  by_cases hc : 1048576 < (code.length : Int)
  · simp [hc]
  obtain ⟨l, x, h, n, nx⟩ := drawPut_ok code
  have s := n.small
  simp only [hc, decide_false, cond_false, h, Option.bind_some, implPutItem_ok s nx.le, specPutItem_ok s (show x.2.1.length ≤ 1000000 by have := nx.2.1.1; omega), equalItems_ok putItem_small, decide_true, Bool.not_true, bne_self_eq_false]
  cases hf : (putItem l x).2 with
  | false => simp
  | true =>
    obtain ⟨ho, hx, h16, e, ho2⟩ := putItem_some hf
    obtain ⟨hl, hi, hp⟩ := okStore_iff.1 ho
    simp only [e, Bool.not_true, cond_false]
    have s2 := okStore_small ho2
    have hg : getItem (putS l x) x.1 = (x, true) := find_mem ho2 (mem_putS.2 (.inl rfl))
    have a1 := putS_le (x := x) hp
    have a2 := putS_len (x := x) hp
    have d1 : decide ((l.length : Int) ≤ ((putS l x).length : Int)) = true := decide_eq_true (by omega)
    have d2 : decide (((putS l x).length : Int) ≤ ((l.length + 1 : Nat) : Int)) = true := decide_eq_true (by omega)
    simp only [implGet_ok s2, hg, Option.bind_some, cond_true, equalItem_ok (x := x) (y := x) (show x.2.1.length < 2000000 by have := nx.le; omega), decide_true, s2.impl, ho2, d1, w64_succ (i := l.length) (by omega), d2]
theorem law_PutItemOthers (code : List UInt8) : M.laws_FnPutItemOthers code = some true := by
  unfold M.laws_FnPutItemOthers
  by_cases hc : 1048576 < (code.length : Int)
  · simp [hc]
  obtain ⟨l, x, h, n, nx⟩ := drawPut_ok code
  have s := n.small
  simp only [hc, decide_false, cond_false, h, Option.bind_some, implPutItem_ok s nx.le, specPutItem_ok s (show x.2.1.length ≤ 1000000 by have := nx.2.1.1; omega), equalItems_ok putItem_small, decide_true, Bool.not_true, bne_self_eq_false]
  cases hf : (putItem l x).2 with
  | false => simp
  | true =>
    obtain ⟨ho, hx, h16, e, ho2⟩ := putItem_some hf
    obtain ⟨hl, hi, hp⟩ := okStore_iff.1 ho
    simp only [e, Bool.not_true, cond_false]
    have s2 := okStore_small ho2
    have hsame : ∀ k : Int, k ≠ x.1 → getItem (putS l x) k = getItem l k := by
      intro k hk
      by_cases hex : ∃ y ∈ l, y.1 = k
      · obtain ⟨y, hy, rfl⟩ := hex
        rw [find_mem ho hy, find_mem ho2 (mem_putS.2 (.inr ⟨hy, hk⟩))]
      · rw [find_none ho (fun y hy e' => hex ⟨y, hy, e'⟩), find_none ho2 (fun y hy e' => ?_)]
        rcases mem_putS.1 hy with rfl | ⟨hy', _⟩
        · exact hk e'.symm
        · exact hex ⟨y, hy', e'⟩
    have hloop := loop_to (f := fun (s50 : (Int)) => ((bif decide (s50 ≤ 99) then
  (M.impl_GetItem l s50).bind fun r53 =>
  (M.impl_GetItem (putS l x) s50).bind fun r62 =>
  Option.bind ((bif s50 != x.1 then
  (bif r53.2 != r62.2 then
  some true
 else
  (M.laws_equalItem (r53.1.1, r53.1.2.1, r53.1.2.2) (r62.1.1, r62.1.2.1, r62.1.2.2)).bind fun r81 =>
  some (!r81))
 else
  some false)) fun o71 =>
  (bif o71 then
  some (.inr (.inr false))
 else
  some (.inl (w64 (s50 + 1))))
 else
  some (.inr (.inl ()))) : Option (Int ⊕ (Unit ⊕ Bool)))) (fun k => 1 ≤ k ∧ k ≤ 100) (fun k => (100 - k).toNat) (r := .inl ()) (by
      rintro k ⟨h1, h2⟩
      by_cases h3 : k ≤ 99
      · refine .inl ⟨k + 1, ?_, by omega, by omega⟩
        have e1 : w64 (k + 1) = k + 1 := w64_id (by omega) (by omega)
        simp only [h3, decide_true, cond_true, implGet_ok s, implGet_ok s2, Option.bind_some, e1]
        by_cases hk : k = x.1
        · simp [hk]
        · have hk' : (k != x.1) = true := bne_iff_ne.2 hk
          rw [hsame k hk]
          simp only [hk', cond_true, bne_self_eq_false, cond_false, equalItem_ok (x := (getItem l k).1) (y := (getItem l k).1) (by have := getItem_small (k := k) s; omega), decide_true, Bool.not_true, Option.bind_some]
      · exact .inr (by simp [h3])) (s := 1) (by omega)
    rw [hloop]; rfl
theorem putS_same {l : List Item} {x y : Item} (ho : okStore l = true) (hx : isItem x = true) (hy : isItem y = true) (hk : y.1 = x.1) (ho2 : okStore (putS l x) = true) : putS (putS l x) y = putS l y := by
  refine sorted_uniq (putS_ok ho2 hy).2 (putS_ok ho hy).2 (fun z => ?_)
  rw [mem_putS, mem_putS, mem_putS]
  constructor
  · rintro (h | ⟨rfl | ⟨h1, h2⟩, h3⟩)
    · exact .inl h
    · exact absurd hk.symm h3
    · exact .inr ⟨h1, h3⟩
  · rintro (h | ⟨h1, h2⟩)
    · exact .inl h
    · exact .inr ⟨.inr ⟨h1, by omega⟩, h2⟩
theorem putS_len_key {l : List Item} {x y : Item} (hk : y.1 = x.1) : (putS l y).length = (putS l x).length := by
  unfold putS; rw [hk]; simp
theorem law_PutItemTwice (code : List UInt8) : M.laws_FnPutItemTwice code = some true := by
  unfold M.laws_FnPutItemTwice
  by_cases hc : 1048576 < (code.length : Int)
  · simp [hc]
  obtain ⟨l, x, h, n, nx⟩ := drawPut_ok code
  have s := n.small
  simp only [hc, decide_false, cond_false, h, Option.bind_some, implPutItem_ok s nx.le, specPutItem_ok s (show x.2.1.length ≤ 1000000 by have := nx.2.1.1; omega), equalItems_ok putItem_small, decide_true, Bool.not_true, bne_self_eq_false]
  cases hf : (putItem l x).2 with
  | false => simp
  | true =>
    obtain ⟨ho, hx, h16, e, ho2⟩ := putItem_some hf
    simp only [e, Bool.not_true, cond_false]
    have s2 := okStore_small ho2
    have hy : isItem ((x.1, [1, 2, 3, 4], 5) : Item) = true := by
      have := (isItem_iff.1 hx).1
      exact isItem_iff.2 ⟨this, rfl, by simp only; omega, by simp only; omega⟩
    have hsame := putS_same (y := (x.1, [1, 2, 3, 4], 5)) ho hx hy rfl ho2
    have hlen : (putS l ((x.1, [1, 2, 3, 4], 5) : Item)).length ≤ 16 := Nat.le_trans (Nat.le_of_eq (putS_len_key (l := l) (x := x) (y := ((x.1, [1, 2, 3, 4], 5) : Item)) rfl)) h16
    have p1 := implPutItem_ok (x := ((x.1, [1, 2, 3, 4], 5) : Item)) s2 (by simp)
    have p2 := implPutItem_ok (x := ((x.1, [1, 2, 3, 4], 5) : Item)) s (by simp)
    rw [putItem_of ho2 hy (by rw [hsame]; exact hlen), hsame] at p1
    rw [putItem_of ho hy hlen] at p2
    have s3 : SmallS (putS l ((x.1, [1, 2, 3, 4], 5) : Item)) := by
      have := putItem_small (l := l) (x := ((x.1, [1, 2, 3, 4], 5) : Item))
      rwa [putItem_of ho hy hlen] at this
    simp only [p1, p2, Option.bind_some, cond_true, equalItems_ok s3, decide_true]
theorem putS_comm {l : List Item} {x y : Item} (hx : isItem x = true) (hy : isItem y = true) (ho : okStore l = true) (h1 : okStore (putS l x) = true) (h2 : okStore (putS l y) = true) (hne : x.1 ≠ y.1) : putS (putS l x) y = putS (putS l y) x := by
  refine sorted_uniq (putS_ok h1 hy).2 (putS_ok h2 hx).2 (fun z => ?_)
  simp only [mem_putS]
  constructor
  · rintro (rfl | ⟨rfl | ⟨h3, h4⟩, h5⟩)
    · exact .inr ⟨.inl rfl, fun e => hne e.symm⟩
    · exact .inl rfl
    · exact .inr ⟨.inr ⟨h3, h5⟩, h4⟩
  · rintro (rfl | ⟨rfl | ⟨h3, h4⟩, h5⟩)
    · exact .inr ⟨.inl rfl, hne⟩
    · exact .inl rfl
    · exact .inr ⟨.inr ⟨h3, h5⟩, h4⟩
theorem law_PutItemOrder (code : List UInt8) : M.laws_FnPutItemOrder code = some true := by
  unfold M.laws_FnPutItemOrder
  by_cases hc : 1048576 < (code.length : Int)
  · simp [hc]
  obtain ⟨l, x, h, n, nx⟩ := drawPut_ok code
  have s := n.small
  simp only [hc, decide_false, cond_false, h, Option.bind_some, implPutItem_ok s nx.le, specPutItem_ok s (show x.2.1.length ≤ 1000000 by have := nx.2.1.1; omega), equalItems_ok putItem_small, decide_true, Bool.not_true, bne_self_eq_false]
  cases hf : (putItem l x).2 with
  | false => simp
  | true =>
    obtain ⟨ho, hx, h16, e, ho2⟩ := putItem_some hf
    simp only [e, Bool.not_true, cond_false]
    by_cases h50 : x.1 = 50
    · simp [h50]
    have e50 : (x.1 == 50) = false := beq_eq_false_iff_ne.2 h50
    simp only [e50, cond_false]
    have s2 := okStore_small ho2
    have hy : isItem ((50, [4, 3, 2, 1], 0) : Item) = true := rfl
    have p1 := implPutItem_ok (x := ((50, [4, 3, 2, 1], 0) : Item)) s2 (by simp)
    have p2 := implPutItem_ok (x := ((50, [4, 3, 2, 1], 0) : Item)) s (by simp)
    have p3 := implPutItem_ok (l := (putItem l ((50, [4, 3, 2, 1], 0) : Item)).1) (x := x) putItem_small nx.le
    simp only [p1, p2, p3, Option.bind_some]
    cases hf1 : (putItem (putS l x) ((50, [4, 3, 2, 1], 0) : Item)).2 with
    | false => simp
    | true =>
      cases hf2 : (putItem l ((50, [4, 3, 2, 1], 0) : Item)).2 with
      | false => simp
      | true =>
        obtain ⟨_, _, g1, e1, g2⟩ := putItem_some hf1
        obtain ⟨_, _, g3, e2, g4⟩ := putItem_some hf2
        have hcm := putS_comm hx hy ho ho2 g4 h50
        rw [e1, e2]
        simp only
        rw [putItem_of g4 hx (by rw [← hcm]; exact g1), ← hcm]
        simp only [Bool.not_true, cond_false, cond_true, equalItems_ok (okStore_small g2), decide_true, Option.bind_some]

theorem drop_len {l : List Item} {k : Int} (hp : l.Pairwise (fun x y => x.1 < y.1)) (h : (l.any fun x => x.1 == k) = true) : (dropS l k).length + 1 = l.length := by
  obtain ⟨hlt, _, _⟩ := place_get hp h
  rw [← drop_filter hp h]; simp; omega
theorem dropItem_some {l : List Item} {k : Int} (h : (dropItem l k).2 = true) : okStore l = true ∧ (l.any fun x => x.1 == k) = true ∧ dropItem l k = (dropS l k, true) ∧ okStore (dropS l k) = true := by
  unfold dropItem at h ⊢
  split at h
  · rename_i hc
    rw [if_pos hc]
    exact ⟨hc.1, hc.2, rfl, okStore_sub hc.1 dropS_sub⟩
  · cases h
theorem dropItem_of {l : List Item} {k : Int} (h1 : okStore l = true) (h2 : (l.any fun x => x.1 == k) = true) : dropItem l k = (dropS l k, true) := by
  unfold dropItem; rw [if_pos ⟨h1, h2⟩]
theorem dropItem_small {l : List Item} {k : Int} : SmallS (dropItem l k).1 := by
  cases h : (dropItem l k).2 with
  | true => obtain ⟨_, _, e, ho⟩ := dropItem_some h; rw [e]; exact okStore_small ho
  | false =>
    unfold dropItem at h ⊢
    split at h
    · cases h
    · rename_i hc; rw [if_neg hc]; exact okStore_small okStore_nil
theorem law_DropItem (code : List UInt8) : M.laws_FnDropItem code = some true := by
  unfold M.laws_FnDropItem
  by_cases hc : 1048576 < (code.length : Int)
  · simp [hc]
  obtain ⟨l, k, h, n, _⟩ := drawDrop_ok code
  have s := n.small
  simp only [hc, decide_false, cond_false, h, Option.bind_some, implDropItem_ok s, specDropItem_ok s, equalItems_ok dropItem_small, decide_true, Bool.not_true, bne_self_eq_false]
  cases hf : (dropItem l k).2 with
  | false => simp
  | true =>
    obtain ⟨ho, ha, e, ho2⟩ := dropItem_some hf
    obtain ⟨hl, hi, hp⟩ := okStore_iff.1 ho
    have s2 := okStore_small ho2
    obtain ⟨y, hy, hyk⟩ := List.any_eq_true.1 ha
    have hyk : y.1 = k := by simpa using hyk
    have g1 : getItem l k = (y, true) := by rw [← hyk]; exact find_mem ho hy
    have g2 : getItem (dropS l k) k = (zItem, false) := find_none ho2 (fun x hx => (mem_dropS.1 hx).2)
    have hyl : y.2.1.length ≤ 1048576 := s.2 y hy
    have hback : putS (dropS l k) y = l := by
      refine sorted_uniq (putS_ok ho2 (hi y hy)).2 hp (fun z => ?_)
      rw [mem_putS, mem_dropS]
      constructor
      · rintro (rfl | ⟨⟨h1, _⟩, _⟩)
        · exact hy
        · exact h1
      · intro hz
        by_cases hzk : z.1 = k
        · left
          have b1 := find_mem ho hz
          rw [hzk, g1] at b1
          simp only [Prod.mk.injEq, and_true] at b1
          exact b1.symm
        · exact .inr ⟨⟨hz, hzk⟩, by omega⟩
    have p3 := putItem_of (l := dropS l k) (x := y) ho2 (hi y hy) (by rw [hback]; exact hl)
    rw [hback] at p3
    have hlen := drop_len hp ha
    have e5 : w64 ((l.length : Int) - 1) = ((dropS l k).length : Int) := by rw [w64_id (by omega) (by omega)]; omega
    simp only [e, Bool.not_true, cond_false, implGet_ok s, implGet_ok s2, g1, g2, Option.bind_some, implPutItem_ok (x := y) s2 hyl, p3, cond_true, Bool.not_false, equalItems_ok s, decide_true, e5, BEq.rfl]
theorem law_DropItemOrder (code : List UInt8) : M.laws_FnDropItemOrder code = some true := by
  unfold M.laws_FnDropItemOrder
  by_cases hc : 1048576 < (code.length : Int)
  · simp [hc]
  obtain ⟨l, k, h, n, _⟩ := drawDrop_ok code
  have s := n.small
  simp only [hc, decide_false, cond_false, h, Option.bind_some, implDropItem_ok s, specDropItem_ok s, equalItems_ok dropItem_small, decide_true, Bool.not_true, bne_self_eq_false]
  cases hf : (dropItem l k).2 with
  | false => simp
  | true =>
    obtain ⟨ho, ha, e, ho2⟩ := dropItem_some hf
    obtain ⟨hl, hi, hp⟩ := okStore_iff.1 ho
    have s2 := okStore_small ho2
    simp only [e, Bool.not_true, cond_false]
    by_cases h0 : (dropS l k).length = 0
    · have : (((dropS l k).length : Int) == 0) = true := beq_iff_eq.2 (by omega)
      simp [this]
    have e0 : (((dropS l k).length : Int) == 0) = false := beq_eq_false_iff_ne.2 (by omega)
    have hr := tmod_range (a := (code.length : Int)) (b := ((dropS l k).length : Int)) (by omega) (by omega)
    obtain ⟨y, hy, my⟩ := gidx_lt' (xs := dropS l k) hr.1 hr.2
    simp only [e0, cond_false, grem_ok (show ((dropS l k).length : Int) ≠ 0 by omega), hy, Option.bind_some, implDropItem_ok s2, implDropItem_ok s]
    obtain ⟨my1, hyk⟩ := mem_dropS.1 my
    have a1 : ((dropS l k).any fun x => x.1 == y.1) = true := List.any_eq_true.2 ⟨y, my, by simp⟩
    have a2 : (l.any fun x => x.1 == y.1) = true := List.any_eq_true.2 ⟨y, my1, by simp⟩
    have d1 := dropItem_of ho2 a1
    have d2 := dropItem_of ho a2
    have ho3 : okStore (dropS l y.1) = true := okStore_sub ho dropS_sub
    have a3 : ((dropS l y.1).any fun x => x.1 == k) = true := by
      obtain ⟨z, hz, hzk⟩ := List.any_eq_true.1 ha
      have hzk' : z.1 = k := by simpa using hzk
      exact List.any_eq_true.2 ⟨z, mem_dropS.2 ⟨hz, by omega⟩, hzk⟩
    have d3 := dropItem_of ho3 a3
    have hcomm : dropS (dropS l k) y.1 = dropS (dropS l y.1) k := by
      unfold dropS; rw [List.filter_filter, List.filter_filter]; congr 1; funext x; rw [Bool.and_comm]
    have s3 := okStore_small ho3
    have s4 : SmallS (dropS (dropS l y.1) k) := okStore_small (okStore_sub ho3 dropS_sub)
    simp only [d1, d2, implDropItem_ok s3, d3, Option.bind_some, cond_true, equalItems_ok s4, hcomm, decide_true]

/-- The bounds, by what they are. -/
theorem bounds_is {l : List Item} (hne : l ≠ []) (ho : okStore l = true) : ∃ lo hi, boundsOf l = (lo, hi, true) ∧ lo.length = 4 ∧ hi.length = 4 ∧ ∀ k, k < 4 →
    ((∀ y ∈ l, lo.getD k 0 ≤ y.2.1.getD k 0) ∧ ∃ y ∈ l, lo.getD k 0 = y.2.1.getD k 0) ∧ ((∀ y ∈ l, y.2.1.getD k 0 ≤ hi.getD k 0) ∧ ∃ y ∈ l, hi.getD k 0 = y.2.1.getD k 0) := by
  cases l with
  | nil => exact absurd rfl hne
  | cons x r =>
    obtain ⟨a, b, c, d, e, f, g, i, hab, hb⟩ := bounds_vec rfl ho
    refine ⟨_, _, hb, rfl, rfl, fun k hk => ?_⟩
    obtain ⟨e1, e2⟩ := hab k hk
    have g1 : [a, b, c, d].getD k 0 = lowAt k (x.2.1.getD k 0) (r.map (·.2.1)) := by
      rw [← e1]; simp [List.getD, hk]
    have g2 : [e, f, g, i].getD k 0 = highAt k (x.2.1.getD k 0) (r.map (·.2.1)) := by
      rw [← e2]; simp [List.getD, hk]
    rw [g1, g2]
    have hL := lowAt_le (j := k) (l := r.map (·.2.1)) (x := x.2.1.getD k 0)
    have hH := le_highAt (j := k) (l := r.map (·.2.1)) (x := x.2.1.getD k 0)
    refine ⟨⟨fun y hy => ?_, ?_⟩, fun y hy => ?_, ?_⟩
    · rcases List.mem_cons.1 hy with rfl | hy
      · exact hL.1
      · exact hL.2 _ (List.mem_map.2 ⟨y, hy, rfl⟩)
    · rcases lowAt_mem (j := k) (x := x.2.1.getD k 0) (l := r.map (·.2.1)) with h1 | ⟨v, hv', h1⟩
      · exact ⟨x, by simp, h1⟩
      · obtain ⟨y, hy, rfl⟩ := List.mem_map.1 hv'
        exact ⟨y, by simp [hy], h1⟩
    · rcases List.mem_cons.1 hy with rfl | hy
      · exact hH.1
      · exact hH.2 _ (List.mem_map.2 ⟨y, hy, rfl⟩)
    · rcases highAt_mem (j := k) (x := x.2.1.getD k 0) (l := r.map (·.2.1)) with h1 | ⟨v, hv', h1⟩
      · exact ⟨x, by simp, h1⟩
      · obtain ⟨y, hy, rfl⟩ := List.mem_map.1 hv'
        exact ⟨y, by simp [hy], h1⟩
theorem law_BoundsOfPut (code : List UInt8) : M.laws_FnBoundsOfPut code = some true := by
  unfold M.laws_FnBoundsOfPut
  by_cases hc : 1048576 < (code.length : Int)
  · simp [hc]
  obtain ⟨l, x, h, n, nx⟩ := drawPut_ok code
  have s := n.small
  simp only [hc, decide_false, cond_false, h, Option.bind_some, implPutItem_ok s nx.le, specPutItem_ok s (show x.2.1.length ≤ 1000000 by have := nx.2.1.1; omega), equalItems_ok putItem_small, decide_true, Bool.not_true, bne_self_eq_false]
  cases hf : (putItem l x).2 with
  | false => simp
  | true =>
    obtain ⟨ho, hx, h16, e, ho2⟩ := putItem_some hf
    obtain ⟨hl, hi, hp⟩ := okStore_iff.1 ho
    simp only [e, Bool.not_true, cond_false]
    by_cases h0 : l.length = 0
    · have : ((l.length : Int) == 0) = true := beq_iff_eq.2 (by omega)
      simp [this]
    have e0 : ((l.length : Int) == 0) = false := beq_eq_false_iff_ne.2 (by omega)
    simp only [e0, cond_false]
    by_cases hle : (putS l x).length = l.length
    · have : (((putS l x).length : Int) == (l.length : Int)) = true := beq_iff_eq.2 (by omega)
      simp [this]
    have e1 : (((putS l x).length : Int) == (l.length : Int)) = false := beq_eq_false_iff_ne.2 (by omega)
    have s2 := okStore_small ho2
    have hnew : (l.any fun y => y.1 == x.1) = false := by
      cases ha : l.any (fun y => y.1 == x.1) with
      | false => rfl
      | true => exact absurd (by rw [putS_found hp ha, List.length_set]) hle
    have hall : ∀ y ∈ l, y ∈ putS l x := fun y hy => mem_putS.2 (.inr ⟨hy, by
      rw [List.any_eq_false] at hnew; simpa using hnew y hy⟩)
    obtain ⟨lo, hi1, b1, l1, l2, k1⟩ := bounds_is (l := l) (by rintro rfl; simp at h0) ho
    obtain ⟨lo', hi', b2, l3, l4, k2⟩ := bounds_is (l := putS l x) (by intro he; have := putS_le (x := x) hp; rw [he] at this; simp at this; simp [this] at h0) ho2
    have hxl : x.2.1.length = 4 := isItem_len hx
    have step : ∀ k : Nat, k < 4 → lo'.getD k 0 = min (lo.getD k 0) (x.2.1.getD k 0) ∧ hi'.getD k 0 = max (hi1.getD k 0) (x.2.1.getD k 0) := by
      intro k hk
      obtain ⟨⟨m1, y1, hy1, n1⟩, m2, y2, hy2, n2⟩ := k1 k hk
      obtain ⟨⟨m3, y3, hy3, n3⟩, m4, y4, hy4, n4⟩ := k2 k hk
      have a1 := m3 y1 (hall _ hy1)
      have a2 := m3 x (mem_putS.2 (.inl rfl))
      have a3 := m4 y2 (hall _ hy2)
      have a4 := m4 x (mem_putS.2 (.inl rfl))
      have a5 : lo.getD k 0 ≤ y3.2.1.getD k 0 ∨ y3 = x := by
        rcases mem_putS.1 hy3 with r | ⟨hm, _⟩
        · exact .inr r
        · exact .inl (m1 _ hm)
      have a6 : y4.2.1.getD k 0 ≤ hi1.getD k 0 ∨ y4 = x := by
        rcases mem_putS.1 hy4 with r | ⟨hm, _⟩
        · exact .inr r
        · exact .inl (m2 _ hm)
      constructor
      · rcases a5 with a5 | rfl <;> omega
      · rcases a6 with a6 | rfl <;> omega
    simp only [e1, cond_false, implBounds_ok s, implBounds_ok s2, b1, b2, Option.bind_some, Bool.not_true]
    have each : ∀ k : Nat, k < 4 → (Option.bind ((gidx lo' (k : Int)).bind fun x82 =>
  (gidx lo (k : Int)).bind fun x88 =>
  (gidx x.2.1 (k : Int)).bind fun x95 =>
  (bif x82 != (min x88 x95) then
  some true
 else
  (gidx hi' (k : Int)).bind fun x103 =>
  (gidx hi1 (k : Int)).bind fun x109 =>
  (gidx x.2.1 (k : Int)).bind fun x116 =>
  some (x103 != (max x109 x116)))) fun o77 =>
  (bif o77 then
  some (.inr (.inr false))
 else
  some (.inl (w64 ((k : Int) + 1))))) = some ((.inl ((k + 1 : Nat) : Int)) : Int ⊕ (Unit ⊕ Bool)) := by
      intro k hk
      obtain ⟨q1, q2⟩ := step k hk
      simp only [gidx_vec l1 hk, gidx_vec l2 hk, gidx_vec l3 hk, gidx_vec l4 hk, gidx_vec hxl hk, Option.bind_some, q1, q2, bne_self_eq_false, cond_false, w64_succ (i := k) (by omega)]
    have t0 := each 0 (by omega)
    have t1 := each 1 (by omega)
    have t2 := each 2 (by omega)
    have t3 := each 3 (by omega)
    simp only [Int.cast_ofNat_Int] at t0 t1 t2 t3
    rw [loop4 (s1 := 1) (s2 := 2) (s3 := 3) (s4 := 4) (r := .inl ())]
    · rfl
    · simp only [d04, cond_true]; exact t0
    · simp only [d14, cond_true]; exact t1
    · simp only [d24, cond_true]; exact t2
    · simp only [d34, cond_true]; exact t3
    · simp only [d44, cond_false]
end
end Go.Vs
