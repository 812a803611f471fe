/- Loops over lists; stores that are drawn. -/
import Derived.Test.YtcgkbgidfilodaaVsPC
import Derived.Test.YtcgkbgidfilodaaLibM6
set_option linter.unusedVariables false
set_option linter.unusedSimpArgs false
namespace Go.Vs

theorem w64_succ {i : Nat} (h : i < 4000000000000000000) : w64 ((i : Int) + 1) = ((i + 1 : Nat) : Int) := w64_id (by omega) (by omega)

section
variable {α S T R U : Type} {xs : List α}
theorem loop_fold (st : S → Int → T) (g : S → α → S) (Inv : Nat → S → Prop) {fin : S → R} {f : T → Option (T ⊕ R)} {s0 : S} (h0 : Inv 0 s0)
    (hs : ∀ s i (h : i < xs.length), Inv i s → f (st s (i : Int)) = some (.inl (st (g s xs[i]) ((i + 1 : Nat) : Int))) ∧ Inv (i + 1) (g s xs[i]))
    (he : ∀ s, Inv xs.length s → f (st s (xs.length : Int)) = some (.inr (fin s))) :
    loopM f (st s0 0) = some (fin (xs.foldl g s0)) ∧ Inv xs.length (xs.foldl g s0) := by
  have key : ∀ m k : Nat, ∀ s, k + m = xs.length → Inv k s → loopM f (st s (k : Int)) = some (fin ((xs.drop k).foldl g s)) ∧ Inv xs.length ((xs.drop k).foldl g s) := by
    intro m
    induction m with
    | zero =>
      intro k s hk hi
      have : k = xs.length := by omega
      subst this
      rw [loopM_eq, he s hi]; simpa [selim] using hi
    | succ m ih =>
      intro k s hk hi
      have hlt : k < xs.length := by omega
      obtain ⟨h1, h2⟩ := hs s k hlt hi
      rw [loopM_eq, h1, List.drop_eq_getElem_cons hlt]
      exact ih (k + 1) _ (by omega) h2
  have := key xs.length 0 s0 (by omega) h0
  simpa using this
/-- A loop in front of something. -/
theorem fold_bind (st : S → Int → T) (g : S → α → S) (Inv : Nat → S → Prop) (fin : S → R) {f : T → Option (T ⊕ R)} {s0 : S} {k : R → Option U} {r : Option U} (h0 : Inv 0 s0)
    (hs : ∀ s i (h : i < xs.length), Inv i s → f (st s (i : Int)) = some (.inl (st (g s xs[i]) ((i + 1 : Nat) : Int))) ∧ Inv (i + 1) (g s xs[i]))
    (he : ∀ s, Inv xs.length s → f (st s (xs.length : Int)) = some (.inr (fin s)))
    (hk : Inv xs.length (xs.foldl g s0) → k (fin (xs.foldl g s0)) = r) : (loopM f (st s0 0)).bind k = r := by
  obtain ⟨h1, h2⟩ := loop_fold st g Inv (fin := fin) h0 hs he
  rw [h1]; exact hk h2
/-- A loop that comes to r, by what holds at each round and what gets less. -/
theorem loop_to {f : T → Option (T ⊕ R)} (J : T → Prop) (μ : T → Nat) {r : R} (step : ∀ s, J s → (∃ s', f s = some (.inl s') ∧ J s' ∧ μ s' < μ s) ∨ f s = some (.inr r)) {s : T} (h : J s) : loopM f s = some r := by
  obtain ⟨r', h1, rfl⟩ := loopM_ind (f := f) J μ (fun x => x = r) (fun s hs => (step s hs).imp id (fun h => ⟨r, h, rfl⟩)) s h
  exact h1
/-- The first element that is so. -/
theorem loop_first (p : α → Bool) (r : Nat → R) {f : Int → Option (Int ⊕ (Unit ⊕ R))}
    (hs : ∀ i (h : i < xs.length), f (i : Int) = some (if p xs[i] = true then .inr (.inr (r i)) else .inl ((i + 1 : Nat) : Int))) (he : f (xs.length : Int) = some (.inr (.inl ()))) :
    loopM f 0 = some (match xs.findIdx? p with | some i => .inr (r i) | none => .inl ()) := by
  have key : ∀ m k : Nat, k + m = xs.length → loopM f (k : Int) = some (match (xs.drop k).findIdx? p with | some i => .inr (r (k + i)) | none => .inl ()) := by
    intro m
    induction m with
    | zero =>
      intro k hk
      have : k = xs.length := by omega
      subst this
      rw [loopM_eq, he]; simp [selim]
    | succ m ih =>
      intro k hk
      have hlt : k < xs.length := by omega
      rw [loopM_eq, hs k hlt, List.drop_eq_getElem_cons hlt, List.findIdx?_cons]
      by_cases hp : p xs[k] = true
      · simp [hp, selim]
      · simp only [hp, if_false, selim, Option.bind_some, Bool.false_eq_true]
        rw [ih (k + 1) (by omega)]
        cases h : List.findIdx? p (List.drop (k + 1) xs) with
        | none => rfl
        | some i => simp only [Option.map_some]; rw [show k + 1 + i = k + (i + 1) by omega]
  have := key xs.length 0 (by omega)
  simpa using this
end

theorem foldl_filter {α : Type} (p : α → Bool) (l : List α) : ∀ s : List α, l.foldl (fun s x => if p x = true then s ++ [x] else s) s = s ++ l.filter p := by
  induction l with
  | nil => intro s; simp
  | cons x l ih =>
    intro s
    rw [List.foldl_cons, ih, List.filter_cons]
    by_cases h : p x = true <;> simp [h]
theorem foldl_map {α β : Type} (g : α → β) (l : List α) : ∀ s : List β, l.foldl (fun s x => s ++ [g x]) s = s ++ l.map g := by
  induction l with
  | nil => intro s; simp
  | cons x l ih => intro s; rw [List.foldl_cons, ih]; simp

/-! ## Valid stores as lists that ascend -/
theorem okFrom_iff {l : List Item} : ∀ {p : Int}, okFrom p l = true ↔ (∀ x ∈ l, isItem x = true ∧ p < x.1) ∧ l.Pairwise (fun x y => x.1 < y.1) := by
  induction l with
  | nil => intro p; simp [okFrom]
  | cons x l ih =>
    intro p
    simp only [okFrom, Bool.and_eq_true, decide_eq_true_eq, ih, List.pairwise_cons, List.mem_cons, forall_eq_or_imp]
    constructor
    · rintro ⟨⟨h1, h2⟩, h3, h4⟩
      exact ⟨⟨⟨h1, h2⟩, fun y hy => ⟨(h3 y hy).1, by have := (h3 y hy).2; omega⟩⟩, fun y hy => (h3 y hy).2, h4⟩
    · rintro ⟨⟨⟨h1, h2⟩, h3⟩, h4, h5⟩
      exact ⟨⟨h1, h2⟩, fun y hy => ⟨(h3 y hy).1, h4 y hy⟩, h5⟩
theorem isItem_iff {x : Item} : isItem x = true ↔ (1 ≤ x.1 ∧ x.1 ≤ 99) ∧ isVec x.2.1 = true ∧ 0 ≤ x.2.2 ∧ x.2.2 ≤ 15 := by
  unfold isItem; simp only [Bool.and_eq_true, decide_eq_true_eq]
theorem okStore_iff {l : List Item} : okStore l = true ↔ l.length ≤ 16 ∧ (∀ x ∈ l, isItem x = true) ∧ l.Pairwise (fun x y => x.1 < y.1) := by
  unfold okStore
  simp only [Bool.and_eq_true, decide_eq_true_eq, okFrom_iff]
  constructor
  · rintro ⟨h1, h2, h3⟩; exact ⟨h1, fun x hx => (h2 x hx).1, h3⟩
  · rintro ⟨h1, h2, h3⟩; exact ⟨h1, fun x hx => ⟨h2 x hx, by have := (isItem_iff.1 (h2 x hx)).1.1; omega⟩, h3⟩
theorem okStore_sub {l m : List Item} (h : okStore l = true) (hs : m.Sublist l) : okStore m = true := by
  obtain ⟨h1, h2, h3⟩ := okStore_iff.1 h
  exact okStore_iff.2 ⟨Nat.le_trans hs.length_le h1, fun x hx => h2 x (hs.subset hx), h3.sublist hs⟩
theorem isItem_len {x : Item} (h : isItem x = true) : x.2.1.length = 4 := (isVec_iff.1 (isItem_iff.1 h).2.1).1

/-- A list of items that is small enough to be looked at. -/
def SmallS (l : List Item) : Prop := l.length ≤ 1048576 ∧ ∀ x ∈ l, x.2.1.length ≤ 1048576
theorem SmallS.hb {l : List Item} (h : SmallS l) : ∀ x ∈ l, x.2.1.length < 2000000 := fun x hx => by have := h.2 x hx; omega
theorem SmallS.hL {l : List Item} (h : SmallS l) : l.length < 2000000 := by have := h.1; omega
theorem okStore_small {l : List Item} (h : okStore l = true) : SmallS l := by
  obtain ⟨h1, h2, h3⟩ := okStore_iff.1 h
  exact ⟨by omega, fun x hx => by have := isItem_len (h2 x hx); omega⟩
theorem SmallS.impl {l : List Item} (h : SmallS l) : M.impl_ValidStore l = some (okStore l) := implStore_ok h.hb
theorem SmallS.specv {l : List Item} (h : SmallS l) : M.spec_validStore l = some (okStore l) := specStore_ok h.hb h.hL
theorem SmallS.spec {l : List Item} (h : SmallS l) : M.spec_ValidStore l = some (okStore l) := specValidStore_ok h.hb h.hL

/-! ## Putting -/
def putS (l : List Item) (x : Item) : List Item := l.filter (fun y => decide (y.1 < x.1)) ++ x :: l.filter (fun y => decide (x.1 < y.1))
theorem copyItem_spec {x : Item} (h : x.2.1.length ≤ 1000000) : M.spec_copyItem (x.1, x.2.1, x.2.2) = some x := by
  unfold M.spec_copyItem; simp only [copy_ok h, Option.bind_some]
theorem specPut_ok {l : List Item} {x : Item} (hl : l.length ≤ 1000) (hx : ∀ y ∈ l, y.2.1.length ≤ 1000000) (hxx : x.2.1.length ≤ 1000000) : M.spec_put l (x.1, x.2.1, x.2.2) = some (putS l x) := by
  unfold M.spec_put
  simp only []
  refine fold_bind (xs := l) (fun s i => (s, i)) (fun s y => if (decide (y.1 < x.1)) = true then s ++ [y] else s) (fun i s => s.length ≤ i) (fun s => s) (by simp) ?_ ?_ ?_
  · intro s i h hs
    have e1 : decide ((i : Int) < (l.length : Int)) = true := by simpa using h
    simp only [e1, cond_true, gidx_nat h, Option.bind_some, w64_succ (i := i) (by omega)]
    by_cases hk : l[i].1 < x.1
    · simp only [hk, decide_true, cond_true, copyItem_spec (hx _ (List.getElem_mem h)), Option.bind_some, if_true]
      rw [gapp_ok (by simp; omega)]
      exact ⟨by first | rfl | trivial, by simp; omega⟩
    · simp only [hk, decide_false, cond_false, Option.bind_some, if_false, Bool.false_eq_true]
      exact ⟨by first | rfl | trivial, by omega⟩
  · intro s _; simp
  · intro hs
    rw [foldl_filter] at hs ⊢
    simp only [List.nil_append] at hs ⊢
    simp only [copyItem_spec hxx, Option.bind_some]
    rw [gapp_ok (by simp; omega)]
    simp only [Option.bind_some]
    refine fold_bind (xs := l) (fun s i => (s, i)) (fun s y => if (decide (x.1 < y.1)) = true then s ++ [y] else s) (fun i s => s.length ≤ 1001 + i) (fun s => s) (by simp; omega) ?_ ?_ ?_
    · intro s i h hs
      have e1 : decide ((i : Int) < (l.length : Int)) = true := by simpa using h
      simp only [e1, cond_true, gidx_nat h, Option.bind_some, w64_succ (i := i) (by omega)]
      by_cases hk : x.1 < l[i].1
      · simp only [hk, decide_true, cond_true, copyItem_spec (hx _ (List.getElem_mem h)), Option.bind_some, if_true]
        rw [gapp_ok (by simp; omega)]
        exact ⟨by first | rfl | trivial, by simp; omega⟩
      · simp only [hk, decide_false, cond_false, Option.bind_some, if_false, Bool.false_eq_true]
        exact ⟨by first | rfl | trivial, by omega⟩
    · intro s _; simp
    · intro _
      rw [foldl_filter]; simp [putS]
theorem putS_len {l : List Item} {x : Item} (h : l.Pairwise (fun x y => x.1 < y.1)) : (putS l x).length ≤ l.length + 1 := by
  unfold putS
  simp only [List.length_append, List.length_cons]
  have : ∀ l : List Item, (l.filter (fun y => decide (y.1 < x.1))).length + (l.filter (fun y => decide (x.1 < y.1))).length ≤ l.length := by
    intro l
    induction l with
    | nil => simp
    | cons y l ih =>
      rw [List.filter_cons, List.filter_cons]
      by_cases h1 : y.1 < x.1
      · have h2 : ¬ x.1 < y.1 := by omega
        simp [h1, h2]; omega
      · by_cases h2 : x.1 < y.1
        · simp [h1, h2]; omega
        · simp [h1, h2]; omega
  have := this l; omega
theorem putS_ok {l : List Item} {x : Item} (h : okStore l = true) (hx : isItem x = true) : (∀ y ∈ putS l x, isItem y = true) ∧ (putS l x).Pairwise (fun x y => x.1 < y.1) := by
  obtain ⟨_, h2, h3⟩ := okStore_iff.1 h
  unfold putS
  refine ⟨?_, ?_⟩
  · intro y hy
    simp only [List.mem_append, List.mem_cons, List.mem_filter] at hy
    rcases hy with hy | rfl | hy
    · exact h2 y hy.1
    · exact hx
    · exact h2 y hy.1
  · rw [List.pairwise_append, List.pairwise_cons]
    refine ⟨h3.sublist List.filter_sublist, ⟨fun y hy => ?_, h3.sublist List.filter_sublist⟩, fun y hy z hz => ?_⟩
    · simpa using (List.mem_filter.1 hy).2
    · have h4 : y.1 < x.1 := by simpa using (List.mem_filter.1 hy).2
      rcases List.mem_cons.1 hz with rfl | hz
      · exact h4
      · have : x.1 < z.1 := by simpa using (List.mem_filter.1 hz).2
        omega
theorem putS_okStore {l : List Item} {x : Item} (h : okStore l = true) (hx : isItem x = true) : okStore (putS l x) = decide ((putS l x).length ≤ 16) := by
  obtain ⟨h1, h2⟩ := putS_ok h hx
  rw [Bool.eq_iff_iff, okStore_iff, decide_eq_true_eq]; exact ⟨fun h => h.1, fun h => ⟨h, h1, h2⟩⟩
def putItem (l : List Item) (x : Item) : List Item × Bool := if okStore l = true ∧ isItem x = true ∧ (putS l x).length ≤ 16 then (putS l x, true) else ([], false)
theorem specPutItem_ok {l : List Item} {x : Item} (h : SmallS l) (hx : x.2.1.length ≤ 1000000) : M.spec_PutItem l (x.1, x.2.1, x.2.2) = some (putItem l x) := by
  unfold M.spec_PutItem putItem
  simp only [h.specv, specItem_ok (x := x) (by omega), Option.bind_some]
  cases h1 : okStore l with
  | false => simp
  | true =>
    cases h2 : isItem x with
    | false => simp
    | true =>
      obtain ⟨hl, hi, hp⟩ := okStore_iff.1 h1
      simp only [Bool.not_true, cond_false, Option.bind_some]
      rw [specPut_ok (by omega) (fun y hy => by have := isItem_len (hi y hy); omega) hx]
      have hs := putS_ok h1 h2
      have hn := putS_len (x := x) hp
      simp only [Option.bind_some, specStore_ok (l := putS l x) (fun y hy => by have := isItem_len (hs.1 y hy); omega) (by omega), putS_okStore h1 h2]
      by_cases h16 : (putS l x).length ≤ 16 <;> simp [h16]

/-! ## Draws -/
theorem item_ok {k : Nat} (hk : k ≤ 700000) {r : List UInt8 × Int} (hr : Good k r) :
    ∃ x r', M.spec_someItem (r.1, r.2) = some (x, (r'.1, r'.2)) ∧ Good (k + 14) r' ∧ isItem x = true ∧ x.1 ≤ 30 := by
  obtain ⟨x1, r1, h1, g1, a1, b1, _⟩ := pick_ok (by omega) hr 30
  obtain ⟨v, r2, h2, g2, hv⟩ := vector_ok (by omega) g1
  obtain ⟨x3, r3, h3, g3, a3, b3, _⟩ := pick_ok (by omega) g2 16
  have b1 := b1 (by omega)
  have b3 := b3 (by omega)
  refine ⟨(1 + x1, v, x3), r3, ?_, g3.mono (by omega), isItem_iff.2 ⟨⟨by simp only; omega, by simp only; omega⟩, hv, by simp only; omega, by simp only; omega⟩, by simp only; omega⟩
  unfold M.spec_someItem
  simp only [h1, h2, h3, Option.bind_some, w64_id (n := 1 + x1) (by omega) (by omega)]

/-- An item that may be drawn. -/
def NearI (x : Item) : Prop := (0 ≤ x.1 ∧ x.1 ≤ 100) ∧ Near x.2.1 ∧ -1 ≤ x.2.2 ∧ x.2.2 ≤ 16
theorem nearI_of {x : Item} (h : isItem x = true) : NearI x := by
  obtain ⟨h1, h2, h3⟩ := isItem_iff.1 h
  exact ⟨by omega, near_of h2, by omega⟩
theorem anyItem_ok {k : Nat} (hk : k ≤ 500000) {r : List UInt8 × Int} (hr : Good k r) :
    ∃ x r', M.spec_anyItem (r.1, r.2) = some (x, (r'.1, r'.2)) ∧ Good (k + 40) r' ∧ NearI x := by
  obtain ⟨x, r1, h1, g1, hx, _⟩ := item_ok (by omega) hr
  obtain ⟨c, r2, h2, g2, _, _, _⟩ := pick_ok (by omega) g1 16
  obtain ⟨hk1, hv, ht⟩ := isItem_iff.1 hx
  unfold M.spec_anyItem
  simp only [h1, h2, Option.bind_some]
  by_cases c0 : c = 0
  · obtain ⟨y, r3, h3, g3, m3⟩ := one_ok (by omega) g2 (list := [0, 99, 100]) (by simp)
    refine ⟨(y, x.2.1, x.2.2), r3, by simp [c0, h3], g3.mono (by omega), ⟨?_, near_of hv, by simp only; omega⟩⟩
    simp only [List.mem_cons, List.not_mem_nil, or_false] at m3; simp only; omega
  · have e0 : (c == 0) = false := by simpa using c0
    simp only [e0, cond_false]
    by_cases c1 : c = 1
    · obtain ⟨v, r3, h3, g3, n3⟩ := any_ok (by omega) g2
      exact ⟨(x.1, v, x.2.2), r3, by simp [c1, h3], g3.mono (by omega), ⟨by simp only; omega, n3, by simp only; omega⟩⟩
    · have e1 : (c == 1) = false := by simpa using c1
      simp only [e1, cond_false]
      by_cases c2 : c = 2
      · obtain ⟨y, r3, h3, g3, m3⟩ := one_ok (by omega) g2 (list := [-1, 16]) (by simp)
        refine ⟨(x.1, x.2.1, y), r3, by simp [c2, h3], g3.mono (by omega), ⟨by simp only; omega, near_of hv, ?_⟩⟩
        simp only [List.mem_cons, List.not_mem_nil, or_false] at m3; simp only; omega
      · have e2 : (c == 2) = false := by simpa using c2
        exact ⟨x, r2, by simp [e2], g2.mono (by omega), nearI_of hx⟩

theorem okStore_nil : okStore [] = true := rfl
theorem store_loop {n : Nat} : ∀ {k : Nat} {r : List UInt8 × Int} {l : List Item}, k + 14 * n ≤ 400000 → n ≤ 100 → Good k r → okStore l = true →
    ∃ l' r', loopM (fun (s27 : ((List UInt8) × (Int)) × (List (Int × (List Int) × Int)) × (Int)) => (bif decide (0 < s27.2.2) then
  Option.bind ((M.spec_someItem (s27.1.1, s27.1.2)).bind fun r39 =>
  (M.spec_PutItem s27.2.1 (r39.1.1, r39.1.2.1, r39.1.2.2)).bind fun r55 =>
  (bif r55.2 then
  some ((r39.2.1, r39.2.2), r55.1)
 else
  some ((r39.2.1, r39.2.2), s27.2.1))) fun o38 =>
  some (.inl ((o38.1.1, o38.1.2), o38.2, w64 (s27.2.2 - 1)))
 else
  some (.inr ((s27.1.1, s27.1.2), s27.2.1)))) (r, l, (n : Int)) = some (r', l') ∧ Good (k + 14 * n) r' ∧ okStore l' = true := by
  induction n with
  | zero => intro k r l _ _ hr hl; exact ⟨l, r, by rw [loopM_eq]; simp [selim], hr.mono (by omega), hl⟩
  | succ n ih =>
    intro k r l hk hn hr hl
    obtain ⟨x, r1, h1, g1, hx, _⟩ := item_ok (by omega) hr
    rw [loopM_eq]
    have e1 : decide ((0 : Int) < ((n + 1 : Nat) : Int)) = true := decide_eq_true (by omega)
    have e2 : w64 (((n + 1 : Nat) : Int) - 1) = (n : Int) := by rw [w64_id (by omega) (by omega)]; omega
    simp only [e1, cond_true, h1, Option.bind_some, specPutItem_ok (x := x) (okStore_small hl) (by have := isItem_len hx; omega), e2]
    by_cases hp : (putItem l x).2 = true
    · have hok : okStore (putItem l x).1 = true := by
        unfold putItem at hp ⊢
        split
        · rename_i h; simp only; rw [putS_okStore hl hx]; simpa using h.2.2
        · rename_i h; rw [if_neg h] at hp; cases hp
      obtain ⟨l', r', h2, h3, h4⟩ := ih (k := k + 14) (r := r1) (l := (putItem l x).1) (by omega) (by omega) g1 hok
      refine ⟨l', r', ?_, h3.mono (by omega), h4⟩
      simp only [hp, cond_true, Option.bind_some, selim]; exact h2
    · simp only [Bool.not_eq_true] at hp
      obtain ⟨l', r', h2, h3, h4⟩ := ih (k := k + 14) (r := r1) (l := l) (by omega) (by omega) g1 hl
      refine ⟨l', r', ?_, h3.mono (by omega), h4⟩
      simp only [hp, cond_false, Option.bind_some, selim]; exact h2
theorem someStore_ok {k : Nat} (hk : k ≤ 300000) {r : List UInt8 × Int} (hr : Good k r) :
    ∃ l r', M.spec_someStore (r.1, r.2) = some (l, (r'.1, r'.2)) ∧ Good (k + 281) r' ∧ okStore l = true := by
  obtain ⟨x, r1, h1, g1, m1⟩ := one_ok (by omega) hr (list := [4, 6, 8, 3, 1, 0, 20, 12]) (by simp)
  obtain ⟨n, rfl, hn⟩ : ∃ n : Nat, x = (n : Int) ∧ n ≤ 20 := ⟨x.toNat, by simp only [List.mem_cons, List.not_mem_nil, or_false] at m1; omega, by simp only [List.mem_cons, List.not_mem_nil, or_false] at m1; omega⟩
  obtain ⟨l, r2, h2, g2, hl⟩ := store_loop (n := n) (k := k + 1) (r := r1) (l := []) (by omega) (by omega) g1 okStore_nil
  refine ⟨l, r2, ?_, g2.mono (by omega), hl⟩
  unfold M.spec_someStore
  simp only [h1, Option.bind_some]
  rw [show ((r1.1, r1.2), ([] : List Item), (n : Int)) = (r1, [], (n : Int)) from rfl, h2]; rfl
/-- A store that may be drawn. -/
def NearS (l : List Item) : Prop := l.length ≤ 17 ∧ ∀ x ∈ l, NearI x
theorem NearS.small {l : List Item} (h : NearS l) : SmallS l := ⟨by have := h.1; omega, fun x hx => by have := (h.2 x hx).2.1.1; omega⟩
theorem nearS_of {l : List Item} (h : okStore l = true) : NearS l := by
  obtain ⟨h1, h2, _⟩ := okStore_iff.1 h
  exact ⟨by omega, fun x hx => nearI_of (h2 x hx)⟩
theorem anyStore_ok {k : Nat} (hk : k ≤ 200000) {r : List UInt8 × Int} (hr : Good k r) :
    ∃ l r', M.spec_anyStore (r.1, r.2) = some (l, (r'.1, r'.2)) ∧ Good (k + 400) r' ∧ NearS l := by
  obtain ⟨l, r1, h1, g1, hl⟩ := someStore_ok (by omega) hr
  obtain ⟨c, r2, h2, g2, _, _, _⟩ := pick_ok (by omega) g1 20
  have hN := nearS_of hl
  obtain ⟨hlen, hit, _⟩ := okStore_iff.1 hl
  unfold M.spec_anyStore
  simp only [h1, h2, Option.bind_some]
  by_cases c0 : c = 0
  · obtain ⟨x, r3, h3, g3, hx⟩ := anyItem_ok (by omega) g2
    refine ⟨l ++ [x], r3, ?_, g3.mono (by omega), by simp; omega, ?_⟩
    · simp only [c0, show ((0 : Int) == 0) = true from rfl, cond_true, h3, Option.bind_some]
      rw [gapp_ok (by simp; omega)]; rfl
    · intro y hy
      rcases List.mem_append.1 hy with h | h
      · exact hN.2 y h
      · simp only [List.mem_singleton] at h; subst h; exact hx
  · have e0 : (c == 0) = false := by simpa using c0
    simp only [e0, cond_false]
    by_cases c1 : c = 1
    · by_cases hpos : 0 < l.length
      · have e1 : decide (0 < (l.length : Int)) = true := by simp; omega
        obtain ⟨i, r3, h3, g3, a3, b3, _⟩ := pick_ok (by omega) g2 (l.length : Int)
        have b3 := b3 (by omega)
        obtain ⟨v, r4, h4, g4, n4⟩ := any_ok (by omega) g3
        obtain ⟨y, hy, my⟩ := gidx_lt' (xs := l) a3 b3
        refine ⟨l.set i.toNat (y.1, v, y.2.2), r4, ?_, g4.mono (by omega), by simp; omega, ?_⟩
        · simp only [c1, show ((1 : Int) == 1) = true from rfl, cond_true, e1, h3, h4, hy, Option.bind_some]
        · intro z hz
          rcases List.mem_or_eq_of_mem_set hz with h | h
          · exact hN.2 z h
          · subst h; exact ⟨(hN.2 y my).1, n4, (hN.2 y my).2.2⟩
      · have e1 : decide (0 < (l.length : Int)) = false := decide_eq_false (by omega)
        exact ⟨l, r2, by simp only [c1, show ((1 : Int) == 1) = true from rfl, cond_true, e1, cond_false, Option.bind_some], g2.mono (by omega), hN⟩
    · have e1 : (c == 1) = false := by simpa using c1
      exact ⟨l, r2, by simp [e1], g2.mono (by omega), hN⟩
theorem drawStore_ok (code : List UInt8) : ∃ l, M.spec_DrawValidStore code = some l ∧ NearS l := by
  obtain ⟨r, h, g⟩ := newReader_ok code
  obtain ⟨l, r1, h1, _, n⟩ := anyStore_ok (by omega) g
  exact ⟨l, by unfold M.spec_DrawValidStore; simp only [h, h1, Option.bind_some], n⟩
theorem drawBounds_ok (code : List UInt8) : ∃ l, M.spec_DrawBoundsOf code = some l ∧ NearS l := by
  obtain ⟨r, h, g⟩ := newReader_ok code
  obtain ⟨l, r1, h1, _, n⟩ := anyStore_ok (by omega) g
  exact ⟨l, by unfold M.spec_DrawBoundsOf; simp only [h, h1, Option.bind_some], n⟩

theorem law_ValidStore (code : List UInt8) : M.laws_FnValidStore code = some true := by
  unfold M.laws_FnValidStore
  by_cases hc : 1048576 < (code.length : Int)
  · simp [hc]
  obtain ⟨l, h, n⟩ := drawStore_ok code
  have s := n.small
  simp only [hc, decide_false, cond_false, h, Option.bind_some, s.impl, s.spec, bne_self_eq_false]
  cases ho : okStore l with
  | false => simp
  | true =>
    simp only [Bool.not_true, cond_false, Option.bind_some]
    by_cases h0 : l.length = 0
    · have : ((l.length : Int) == 0) = true := beq_iff_eq.2 (by omega)
      simp [this]
    have e0 : ((l.length : Int) == 0) = false := beq_eq_false_iff_ne.2 (by omega)
    simp only [e0, cond_false, grem_ok (show (l.length : Int) ≠ 0 by omega), Option.bind_some]
    have hr := tmod_range (a := (code.length : Int)) (b := (l.length : Int)) (by omega) (by omega)
    obtain ⟨q, hq⟩ : ∃ q : Nat, (code.length : Int).tmod (l.length : Int) = (q : Int) := ⟨_, (Int.toNat_of_nonneg hr.1).symm⟩
    rw [hq] at hr ⊢
    have hlen := (okStore_iff.1 ho).1
    rw [gslice_ok (by omega) (by omega) (by omega)]
    simp only [Option.bind_some, Int.toNat_natCast, Int.toNat_zero, List.drop_zero]
    rw [gapp_ok (by simp; omega)]
    simp only [Option.bind_some, w64_succ (i := q) (by omega), List.nil_append]
    rw [gslice_ok (by omega) (by omega) (by omega)]
    simp only [Option.bind_some, Int.toNat_natCast, List.take_length]
    rw [gapp_ok (by simp; omega)]
    simp only [Option.bind_some]
    have hsub : (l.take q ++ l.drop (q + 1)).Sublist l := by
      have h1 : (l.drop (q + 1)).Sublist (l.drop q) := by
        rw [← List.drop_drop]; exact List.drop_sublist _ _
      have := (List.Sublist.refl (l.take q)).append h1
      rwa [List.take_append_drop] at this
    have hok := okStore_sub ho hsub
    rw [(okStore_small hok).impl, hok]
    simp only [Option.bind_some, cond_true]
    rw [(okStore_small okStore_nil).impl]; rfl
end Go.Vs
