/- Keys of stores: where they are, and items that are got. -/
import Derived.Test.YtcgkbgidfilodaaVsQ0
set_option linter.unusedVariables false
set_option linter.unusedSimpArgs false
namespace Go.Vs

theorem wk_i64 (n : Int) : wk .i64 n = w64 n := rfl
theorem wk_u64 {n : Int} (h0 : 0 ≤ n) (h : n < 18446744073709551616) : wk .u64 n = n := by
  simp only [wk, Go.IntKind.wrap, Go.IntKind.bits, Go.IntKind.signed, Bool.false_and]
  have e1 : ((2 : Int) ^ (64 : Nat)) = 18446744073709551616 := by decide
  rw [e1]
  simp; omega
theorem mid_ok {i j : Nat} (hi : i ≤ j) (hj : j < 1000000000) : wk .i64 (gshr .u64 (wk .u64 (w64 ((i : Int) + (j : Int)))) 1) = (((i + j) / 2 : Nat) : Int) := by
  rw [w64_id (by omega) (by omega), wk_u64 (by omega) (by omega), wk_i64]
  have : gshr .u64 ((i : Int) + (j : Int)) 1 = ((i + j) / 2 : Nat) := by
    unfold gshr
    have e : (2 : Int) ^ (min (1 : Int).toNat (Go.IntKind.bits .u64)) = 2 := by decide
    rw [e, Int.fdiv_eq_ediv_of_nonneg _ (by omega)]
    omega
  rw [this, w64_nat (by omega)]
def cmpI (x y : Int) : Int := if x < y then -1 else if y < x then 1 else 0
theorem compare_ok (x y : Int) : M.cmp_Compare_int x y = some (cmpI x y) := by
  unfold M.cmp_Compare_int M.cmp_isNaN_int cmpI
  simp only [bne_self_eq_false, Option.bind_some, cond_false]
  by_cases h1 : x < y
  · simp [h1]
  · by_cases h2 : y < x <;> simp [h1, h2]
theorem place1_ok (x : Item) (k : Int) : M.impl_placeOf_1 (x.1, x.2.1, x.2.2) k = some (cmpI x.1 k) := by
  unfold M.impl_placeOf_1; simp only [compare_ok, Option.bind_some]
theorem cmpI_neg {x y : Int} : cmpI x y < 0 ↔ x < y := by unfold cmpI; split <;> (try split) <;> omega
theorem cmpI_zero {x y : Int} : cmpI x y = 0 ↔ x = y := by unfold cmpI; split <;> (try split) <;> omega
theorem cmpI_pos {x y : Int} : 0 < cmpI x y ↔ y < x := by unfold cmpI; split <;> (try split) <;> omega

theorem countP_cut {α : Type} {p : α → Bool} {l : List α} {c : Nat} (hc : c ≤ l.length) (h1 : ∀ i, (h : i < l.length) → i < c → p l[i] = true) (h2 : ∀ i, (h : i < l.length) → c ≤ i → p l[i] = false) : l.countP p = c := by
  have e : l = l.take c ++ l.drop c := (List.take_append_drop c l).symm
  rw [e, List.countP_append]
  have a1 : (l.take c).countP p = c := by
    have : (l.take c).countP p = (l.take c).length := by
      rw [List.countP_eq_length]
      intro x hx
      obtain ⟨i, hi, rfl⟩ := List.getElem_of_mem hx
      rw [List.length_take] at hi
      rw [List.getElem_take]; exact h1 i (by omega) (by omega)
    rw [this, List.length_take]; omega
  have a2 : (l.drop c).countP p = 0 := by
    rw [List.countP_eq_zero]
    intro x hx
    obtain ⟨i, hi, rfl⟩ := List.getElem_of_mem hx
    rw [List.length_drop] at hi
    rw [List.getElem_drop, h2 (c + i) (by omega) (by omega)]; simp
  omega
/-- Where a key is, or would be. -/
def placeS (l : List Item) (k : Int) : Nat := l.countP fun x => decide (x.1 < k)
theorem place_lt {l : List Item} {k : Int} (hp : l.Pairwise (fun x y => x.1 < y.1)) {i : Nat} (h : i < l.length) : i < placeS l k ↔ l[i].1 < k := by
  induction l generalizing i with
  | nil => simp at h
  | cons x l ih =>
    rw [List.pairwise_cons] at hp
    unfold placeS at ih ⊢
    rw [List.countP_cons]
    cases i with
    | zero =>
      by_cases hx : x.1 < k
      · simp [hx]
      · have : l.countP (fun x => decide (x.1 < k)) = 0 := by
          rw [List.countP_eq_zero]; intro y hy; have := hp.1 y hy; simp; omega
        simp only [this, hx, decide_false, List.getElem_cons_zero]; simp
    | succ i =>
      simp only [List.length_cons] at h
      have := ih hp.2 (i := i) (by omega)
      simp only [List.getElem_cons_succ]
      by_cases hx : x.1 < k
      · simp only [hx, decide_true, if_true]; rw [← this]; omega
      · have h0 : l.countP (fun x => decide (x.1 < k)) = 0 := by
          rw [List.countP_eq_zero]; intro y hy; have := hp.1 y hy; simp; omega
        rw [h0] at this ⊢
        have hy := hp.1 l[i] (List.getElem_mem _)
        simp only [hx, decide_false]; constructor
        · intro hh; simp at hh
        · intro hh; omega
theorem placeS_le {l : List Item} {k : Int} : placeS l k ≤ l.length := List.countP_le_length
theorem search_ok {l : List Item} {k : Int} (hp : l.Pairwise (fun x y => x.1 < y.1)) (hl : l.length < 1000000) :
    M.slices_BinarySearchFunc_impl_Item_impl_Item_int__impl_placeOf_1 l k = some ((placeS l k : Int), l.any fun x => x.1 == k) := by
  unfold M.slices_BinarySearchFunc_impl_Item_impl_Item_int__impl_placeOf_1
  have hk := loop_to (f := fun (s2 : (Int) × (Int)) => (bif decide (s2.1 < s2.2) then
  (gidx l (wk .i64 (gshr .u64 (wk .u64 (w64 (s2.1 + s2.2))) 1))).bind fun x5 =>
  (M.impl_placeOf_1 (x5.1, x5.2.1, x5.2.2) k).bind fun r15 =>
  (bif decide (r15 < 0) then
  some (.inl (w64 ((wk .i64 (gshr .u64 (wk .u64 (w64 (s2.1 + s2.2))) 1)) + 1), s2.2))
 else
  some (.inl (s2.1, wk .i64 (gshr .u64 (wk .u64 (w64 (s2.1 + s2.2))) 1))))
 else
  some (.inr s2.1))) (fun s => ∃ i j : Nat, s = ((i : Int), (j : Int)) ∧ i ≤ j ∧ j ≤ l.length ∧ i ≤ placeS l k ∧ placeS l k ≤ j) (fun s => (s.2 - s.1).toNat) (r := (placeS l k : Int)) (by
    rintro _ ⟨i, j, rfl, hij, hjl, h1, h2⟩
    by_cases hlt : i < j
    · have e1 : decide ((i : Int) < (j : Int)) = true := decide_eq_true (by omega)
      have hmid : (i + j) / 2 < l.length := by omega
      simp only [e1, cond_true, mid_ok hij (by omega), gidx_nat hmid, Option.bind_some, place1_ok]
      have hpl := place_lt (k := k) hp hmid
      by_cases hc : l[(i + j) / 2].1 < k
      · have e2 : decide (cmpI l[(i + j) / 2].1 k < 0) = true := decide_eq_true (cmpI_neg.2 hc)
        simp only [e2, cond_true, w64_succ (i := (i + j) / 2) (by omega)]
        exact .inl ⟨_, rfl, ⟨_, _, rfl, by omega, hjl, by have := hpl.2 hc; omega, h2⟩, by simp only; omega⟩
      · have e2 : decide (cmpI l[(i + j) / 2].1 k < 0) = false := decide_eq_false (fun h => hc (cmpI_neg.1 h))
        simp only [e2, cond_false]
        exact .inl ⟨_, rfl, ⟨_, _, rfl, by omega, by omega, h1, Nat.le_of_not_lt fun h => hc (hpl.1 h)⟩, by simp only; omega⟩
    · have : i = placeS l k := by omega
      have e1 : decide ((i : Int) < (j : Int)) = false := decide_eq_false (by omega)
      refine .inr ?_
      simp only [e1, cond_false]; rw [this])
    (s := (0, (l.length : Int))) ⟨0, l.length, rfl, by omega, Nat.le_refl _, by omega, placeS_le⟩
  rw [hk]
  simp only [Option.bind_some]
  by_cases hlt : placeS l k < l.length
  · have e1 : decide ((placeS l k : Int) < (l.length : Int)) = true := decide_eq_true (by omega)
    simp only [e1, cond_true, gidx_nat hlt, Option.bind_some, place1_ok]
    congr 2
    have hpl := place_lt (k := k) hp hlt
    have hge : k ≤ l[placeS l k].1 := by
      refine Int.not_lt.1 fun h => ?_
      have := hpl.2 h; omega
    rw [Bool.eq_iff_iff, beq_iff_eq, cmpI_zero, List.any_eq_true]
    constructor
    · intro h; exact ⟨_, List.getElem_mem hlt, by simpa using h⟩
    · rintro ⟨x, hx, hxk⟩
      obtain ⟨i, hi, rfl⟩ := List.getElem_of_mem hx
      have hik : l[i].1 = k := by simpa using hxk
      have hle : ¬ i < placeS l k := fun h => by have := (place_lt hp hi).1 h; omega
      rcases Nat.lt_or_ge (placeS l k) i with h | h
      · have := List.pairwise_iff_getElem.1 hp _ _ hlt hi h; omega
      · have : i = placeS l k := by omega
        subst this; exact hik
  · have e1 : decide ((placeS l k : Int) < (l.length : Int)) = false := decide_eq_false (by omega)
    simp only [e1, cond_false]
    congr 2
    symm
    rw [List.any_eq_false]
    intro x hx hxk
    obtain ⟨i, hi, rfl⟩ := List.getElem_of_mem hx
    have hik : l[i].1 = k := by simpa using hxk
    have := (place_lt (k := k) hp hi).1 (by omega); omega
theorem placeOf_ok {l : List Item} {k : Int} (h : okStore l = true) : M.impl_placeOf l k = some ((placeS l k : Int), l.any fun x => x.1 == k) := by
  obtain ⟨h1, _, h3⟩ := okStore_iff.1 h
  unfold M.impl_placeOf
  rw [search_ok h3 (by omega)]; rfl
/-- The item at the place of its key. -/
theorem place_get {l : List Item} {k : Int} (hp : l.Pairwise (fun x y => x.1 < y.1)) (h : l.any (fun x => x.1 == k) = true) : ∃ hi : placeS l k < l.length, l[placeS l k].1 = k ∧ l.find? (fun x => x.1 == k) = some l[placeS l k] := by
  obtain ⟨x, hx, hxk⟩ := List.any_eq_true.1 h
  obtain ⟨i, hi, rfl⟩ := List.getElem_of_mem hx
  have hik : l[i].1 = k := by simpa using hxk
  have hle : ¬ i < placeS l k := fun h => by have := (place_lt hp hi).1 h; omega
  have hlt : placeS l k < l.length := by omega
  have hge : ¬ placeS l k < i := fun h => by
    have h1 := List.pairwise_iff_getElem.1 hp _ _ hlt hi h
    have := (place_lt (k := k) hp hlt).2 (by omega); omega
  have : i = placeS l k := by omega
  refine ⟨hlt, by subst this; exact hik, ?_⟩
  rw [List.find?_eq_some_iff_getElem]
  refine ⟨by subst this; simpa using hik, _, hlt, rfl, fun j hj => ?_⟩
  have := (place_lt (k := k) hp (i := j) (by omega)).1 hj
  simp; omega

theorem clone_ok {v : List Int} (h : v.length ≤ 1048576) : M.slices_Clone_int_int v = some v := by
  unfold M.slices_Clone_int_int; rw [gapp_ok (by simp; omega)]; rfl
theorem implCopy_ok {x : Item} (h : x.2.1.length ≤ 1048576) : M.impl_copyItem (x.1, x.2.1, x.2.2) = some x := by
  unfold M.impl_copyItem; simp only [clone_ok h, Option.bind_some]
theorem keyAt_ok {l : List Item} {k : Int} (hl : l.length < 2000000) : M.spec_keyAt l k = some (match l.findIdx? (fun x => x.1 == k) with | some i => (i : Int) | none => -1) := by
  unfold M.spec_keyAt
  rw [loop_first (xs := l) (fun x => x.1 == k) (fun i => (i : Int))]
  · cases l.findIdx? (fun x => x.1 == k) <;> rfl
  · intro i h
    have e1 : decide ((i : Int) < (l.length : Int)) = true := decide_eq_true (by omega)
    simp only [e1, cond_true, gidx_nat h, Option.bind_some, w64_succ (i := i) (by omega)]
    cases l[i].1 == k <;> rfl
  · simp
def zItem : Item := (0, [], 0)
def getItem (l : List Item) (k : Int) : Item × Bool := if okStore l = true then (match l.find? (fun x => x.1 == k) with | some x => (x, true) | none => (zItem, false)) else (zItem, false)
theorem specGet_ok {l : List Item} {k : Int} (h : SmallS l) : M.spec_GetItem l k = some (getItem l k) := by
  unfold M.spec_GetItem getItem
  simp only [h.specv, Option.bind_some, keyAt_ok h.hL]
  cases ho : okStore l with
  | false => simp [zItem]
  | true =>
    simp only [Bool.not_true, cond_false, if_true]
    cases hf : l.findIdx? (fun x => x.1 == k) with
    | none =>
      have : l.find? (fun x => x.1 == k) = none := by
        rw [List.find?_eq_none]; rw [List.findIdx?_eq_none_iff] at hf
        intro x hx; simpa using hf x hx
      simp [this, zItem]
    | some i =>
      obtain ⟨hi, h1, h2⟩ := List.findIdx?_eq_some_iff_getElem.1 hf
      have hfd : l.find? (fun x => x.1 == k) = some l[i] := List.find?_eq_some_iff_getElem.2 ⟨h1, i, hi, rfl, fun j hj => by have := h2 j hj; simpa using this⟩
      have e1 : decide ((i : Int) < 0) = false := decide_eq_false (by omega)
      simp only [hfd, Option.bind_some, e1, cond_false, gidx_nat hi, copyItem_spec (x := l[i]) (by have := isItem_len ((okStore_iff.1 ho).2.1 l[i] (List.getElem_mem hi)); omega)]
theorem implGet_ok {l : List Item} {k : Int} (h : SmallS l) : M.impl_GetItem l k = some (getItem l k) := by
  unfold M.impl_GetItem getItem
  simp only [h.impl, Option.bind_some]
  cases ho : okStore l with
  | false => simp [zItem]
  | true =>
    simp only [Bool.not_true, cond_false, if_true, placeOf_ok ho, Option.bind_some]
    obtain ⟨_, hi, hp⟩ := okStore_iff.1 ho
    cases ha : l.any (fun x => x.1 == k) with
    | false =>
      have : l.find? (fun x => x.1 == k) = none := by
        rw [List.find?_eq_none]; rw [List.any_eq_false] at ha; exact ha
      simp [this, zItem]
    | true =>
      obtain ⟨hlt, _, hf⟩ := place_get hp ha
      simp only [hf, Bool.not_true, cond_false, gidx_nat hlt, Option.bind_some, implCopy_ok (x := l[placeS l k]) (by have := isItem_len (hi _ (List.getElem_mem hlt)); omega)]

theorem someKey_ok {k : Nat} (hk : k ≤ 500000) {r : List UInt8 × Int} (hr : Good k r) {l : List Item} (hl : NearS l) :
    ∃ x r', M.spec_someKey (r.1, r.2) l = some (x, (r'.1, r'.2)) ∧ Good (k + 2) r' ∧ -1 ≤ x ∧ x ≤ 100 := by
  have fin : ∀ {k : Nat} {r : List UInt8 × Int}, k ≤ 600000 → Good k r → ∃ x r', M.spec_reader_one (r.1, r.2) ([5, 99, 0, 31, -1] : List Int) = some (x, (r'.1, r'.2)) ∧ Good (k + 1) r' ∧ -1 ≤ x ∧ x ≤ 100 := by
    intro k r hk hr
    obtain ⟨x, r1, h1, g1, m1⟩ := one_ok (by omega) hr (list := [5, 99, 0, 31, -1]) (by simp)
    exact ⟨x, r1, h1, g1, by simp only [List.mem_cons, List.not_mem_nil, or_false] at m1; omega⟩
  unfold M.spec_someKey
  by_cases h0 : 0 < l.length
  · have e0 : decide (0 < (l.length : Int)) = true := decide_eq_true (by omega)
    obtain ⟨c, r1, h1, g1, _, _, _⟩ := pick_ok (by omega) hr 5
    simp only [e0, cond_true, h1, Option.bind_some]
    by_cases hc : 0 < c
    · obtain ⟨i, r2, h2, g2, a2, b2, _⟩ := pick_ok (by omega) g1 (l.length : Int)
      obtain ⟨y, hy, my⟩ := gidx_lt' (xs := l) a2 (b2 (by omega))
      have := (hl.2 y my).1
      exact ⟨y.1, r2, by simp only [hc, decide_true, cond_true, h2, hy, Option.bind_some], g2, by omega, by omega⟩
    · obtain ⟨x, r2, h2, g2, b2⟩ := fin (by omega) g1
      exact ⟨x, r2, by simp only [hc, decide_false, cond_false, h2, Option.bind_some], g2, b2⟩
  · have e0 : decide (0 < (l.length : Int)) = false := decide_eq_false (by omega)
    obtain ⟨x, r2, h2, g2, b2⟩ := fin (by omega) hr
    exact ⟨x, r2, by simp only [e0, cond_false, h2, Option.bind_some], g2.mono (by omega), b2⟩
theorem drawDrop_ok (code : List UInt8) : ∃ l k, M.spec_DrawDropItem code = some (l, k) ∧ NearS l ∧ -1 ≤ k ∧ k ≤ 100 := by
  obtain ⟨r, h, g⟩ := newReader_ok code
  obtain ⟨l, r1, h1, g1, n⟩ := anyStore_ok (by omega) g
  obtain ⟨x, r2, h2, _, b⟩ := someKey_ok (by omega) g1 n
  exact ⟨l, x, by unfold M.spec_DrawDropItem; simp only [h, h1, h2, Option.bind_some], n, b⟩

theorem equalItem_ok {x y : Item} (h : x.2.1.length < 2000000) : M.laws_equalItem (x.1, x.2.1, x.2.2) (y.1, y.2.1, y.2.2) = some (decide (x = y)) := by
  unfold M.laws_equalItem
  simp only [equalInts_ok h, Option.bind_some]
  obtain ⟨a, b, c⟩ := x
  obtain ⟨a', b', c'⟩ := y
  by_cases h1 : a = a'
  · by_cases h2 : c = c'
    · simp [h1, h2]
    · have : (c == c') = false := beq_eq_false_iff_ne.2 h2
      simp [h1, h2, this]
  · have : (a == a') = false := beq_eq_false_iff_ne.2 h1
    simp [h1, this]
theorem bind_id {α : Type} (o : Option α) : o.bind (fun b => some b) = o := by cases o <;> rfl
theorem equalItems_ok {l m : List Item} (h : SmallS l) : M.laws_equalItems l m = some (decide (l = m)) := by
  unfold M.laws_equalItems
  by_cases hl : l.length = m.length
  · have e0 : ((l.length : Int) != (m.length : Int)) = false := by simp [hl]
    simp only [e0, cond_false]
    have hx : ∀ i (h : i < l.length) (h' : i < m.length), (Option.bind ((gidx l (i : Int)).bind fun x10 =>
  (gidx m (i : Int)).bind fun x15 =>
  (bif x10.1 != x15.1 then
  some true
 else
  (gidx l (i : Int)).bind fun x22 =>
  (gidx m (i : Int)).bind fun x27 =>
  (bif x22.2.2 != x27.2.2 then
  some true
 else
  (gidx l (i : Int)).bind fun x34 =>
  (gidx m (i : Int)).bind fun x44 =>
  (M.laws_equalInts x34.2.1 x44.2.1).bind fun r55 =>
  some (!r55)))) (fun b => some b)) = some (!decide (l[i] = m[i])) := by
      intro i hi hi'
      simp only [gidx_nat hi, gidx_nat hi', Option.bind_some, equalInts_ok (h.hb _ (List.getElem_mem hi))]
      generalize l[i] = x
      generalize m[i] = y
      obtain ⟨a, b, c⟩ := x
      obtain ⟨a', b', c'⟩ := y
      by_cases h1 : a = a'
      · by_cases h2 : c = c'
        · simp [h1, h2]
        · have : (c != c') = true := bne_iff_ne.2 h2
          simp [h1, h2, this]
      · have : (a != a') = true := bne_iff_ne.2 h1
        simp [h1, this]
    rw [loop_all (xs := l.zip m) (P := fun x => decide (x.1 = x.2)) (r := false)]
    · have : (l.zip m).all (fun x => decide (x.1 = x.2)) = decide (l = m) := by
        clear hx h e0
        induction l generalizing m with
        | nil => cases m with
          | nil => rfl
          | cons => simp at hl
        | cons x l ih => cases m with
          | nil => simp at hl
          | cons y m =>
            simp only [List.length_cons, Nat.add_right_cancel_iff] at hl
            rw [List.zip_cons_cons, List.all_cons, ih hl]
            by_cases h1 : x = y <;> by_cases h2 : l = m <;> simp [h1, h2]
      rw [this]
      by_cases h1 : l = m <;> simp [h1, selim]
    · intro i hi
      have hz : (l.zip m).length = l.length := by rw [List.length_zip]; omega
      have hi1 : i < l.length := by omega
      have hi2 : i < m.length := by omega
      have e1 : decide ((i : Int) < (l.length : Int)) = true := decide_eq_true (by omega)
      have e2 : w64 ((i : Int) + 1) = (i : Int) + 1 := w64_id (by have := h.hL; omega) (by have := h.hL; omega)
      have := hx i hi1 hi2
      rw [bind_id] at this
      simp only [e1, cond_true, this, Option.bind_some, e2, List.getElem_zip]
      by_cases hxy : l[i] = m[i] <;> simp [hxy]
    · have hz : (l.zip m).length = l.length := by rw [List.length_zip]; omega
      simp [hz]
  · have e0 : ((l.length : Int) != (m.length : Int)) = true := by simp; omega
    have : l ≠ m := fun h => hl (by rw [h])
    simp [e0, this]

theorem law_GetItem (code : List UInt8) : M.laws_FnGetItem code = some true := by
  unfold M.laws_FnGetItem
  by_cases hc : 1048576 < (code.length : Int)
  · simp [hc]
  obtain ⟨l, k, h, n, _⟩ := drawDrop_ok code
  have hd : M.spec_DrawGetItem code = some (l, k) := by unfold M.spec_DrawGetItem; simp only [h, Option.bind_some]
  have s := n.small
  have hb : (getItem l k).1.2.1.length < 2000000 := by
    unfold getItem
    split
    · split
      · rename_i x hx; exact s.hb x (List.mem_of_find?_eq_some hx)
      · simp [zItem]
    · simp [zItem]
  simp only [hc, decide_false, cond_false, hd, Option.bind_some, implGet_ok s, specGet_ok s, equalItem_ok hb, decide_true, Bool.not_true, bne_self_eq_false, s.impl]
  cases ho : okStore l with
  | false => simp
  | true =>
    simp only [Bool.not_true, cond_false]
    have hg : getItem l k = (match l.find? (fun x => x.1 == k) with | some x => (x, true) | none => (zItem, false))   := by
      unfold getItem; rw [if_pos ho]
      rfl
    refine fold_bind (xs := l) (fun s i => (s, i)) (fun s x => s || (x.1 == k && decide (x = (getItem l k).1))) (fun i s => True) (fun s => s) trivial ?_ ?_ ?_
    · intro b i hi _
      have e1 : decide ((i : Int) < (l.length : Int)) = true := decide_eq_true (by omega)
      simp only [e1, cond_true, gidx_nat hi, Option.bind_some, w64_succ (i := i) (by have := s.hL; omega), and_true]
      cases b with
      | true => simp
      | false =>
        simp only [cond_false, equalItem_ok (s.hb _ (List.getElem_mem hi)), Option.bind_some]
        cases l[i].1 == k <;> simp
    · intro b _; simp
    · intro _
      have hf : ∀ (m : List Item) (b : Bool), m.foldl (fun s x => s || (x.1 == k && decide (x = (getItem l k).1))) b = (b || m.any fun x => x.1 == k && decide (x = (getItem l k).1)) := by
        intro m
        induction m with
        | nil => intro b; simp
        | cons x m ih => intro b; rw [List.foldl_cons, ih, List.any_cons, Bool.or_assoc]
      rw [hf, Bool.false_or]
      congr 1
      rw [beq_iff_eq, hg]
      cases hfd : l.find? (fun x => x.1 == k) with
      | none =>
        simp only
        rw [List.find?_eq_none] at hfd
        rw [List.any_eq_false]
        intro x hx
        have := hfd x hx
        simp at this
        simp [this]
      | some x =>
        simp only
        rw [List.any_eq_true]
        refine ⟨x, List.mem_of_find?_eq_some hfd, ?_⟩
        have := List.find?_some hfd
        simp at this
        simp [this]
end Go.Vs
