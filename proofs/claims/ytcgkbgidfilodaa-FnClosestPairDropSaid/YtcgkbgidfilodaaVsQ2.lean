/- Bounds of stores, boxes. -/
import Derived.Test.YtcgkbgidfilodaaVsQ1
set_option linter.unusedVariables false
set_option linter.unusedSimpArgs false
namespace Go.Vs

section
variable {α S T R U : Type} {xs : List α}
/-- A loop that begins at a later element, in front of something. -/
theorem fold_bindK (k : Nat) {k' : Int} (hk' : k' = (k : Int)) (st : S → Int → T) (g : S → α → S) (Inv : Nat → S → Prop) (fin : S → R) {f : T → Option (T ⊕ R)} {s0 : S} {c : R → Option U} {r : Option U} (hkl : k ≤ xs.length) (h0 : Inv k s0)
    (hs : ∀ s i (h : i < xs.length), k ≤ i → Inv i s → f (st s (i : Int)) = some (.inl (st (g s xs[i]) ((i + 1 : Nat) : Int))) ∧ Inv (i + 1) (g s xs[i]))
    (he : ∀ s, Inv xs.length s → f (st s (xs.length : Int)) = some (.inr (fin s)))
    (hk : Inv xs.length ((xs.drop k).foldl g s0) → c (fin ((xs.drop k).foldl g s0)) = r) : (loopM f (st s0 k')).bind c = r := by
  have key : ∀ m i : Nat, ∀ s, i + m = xs.length → k ≤ i → Inv i s → loopM f (st s (i : Int)) = some (fin ((xs.drop i).foldl g s)) ∧ Inv xs.length ((xs.drop i).foldl g s) := by
    intro m
    induction m with
    | zero =>
      intro i s hm _ hi
      have : i = xs.length := by omega
      subst this
      rw [loopM_eq, he s hi]; simpa [selim] using hi
    | succ m ih =>
      intro i s hm hki hi
      have hlt : i < xs.length := by omega
      obtain ⟨h1, h2⟩ := hs s i hlt hki hi
      rw [loopM_eq, h1, List.drop_eq_getElem_cons hlt]
      exact ih (i + 1) _ (by omega) (by omega) h2
  obtain ⟨h1, h2⟩ := key (xs.length - k) k s0 (by omega) (Nat.le_refl _) h0
  subst hk'
  rw [h1]; exact hk h2
end

def minV (a b : List Int) : List Int := List.zipWith min a b
def maxV (a b : List Int) : List Int := List.zipWith max a b
theorem fold_low {l : List Item} (h : ∀ x ∈ l, isVec x.2.1 = true) : ∀ {a b c d : Int}, l.foldl (fun s y => minV s y.2.1) [a, b, c, d] = [lowAt 0 a (l.map (·.2.1)), lowAt 1 b (l.map (·.2.1)), lowAt 2 c (l.map (·.2.1)), lowAt 3 d (l.map (·.2.1))] := by
  induction l with
  | nil => intro a b c d; rfl
  | cons x l ih =>
    intro a b c d
    obtain ⟨e, f, g, i, hx, _⟩ := isVec_four (h x (by simp))
    rw [List.foldl_cons, hx]
    simp only [minV, List.zipWith_cons_cons, List.zipWith_nil_left]
    rw [show (fun (s : List Int) (y : Item) => List.zipWith min s y.2.1) = fun s y => minV s y.2.1 from rfl, ih (fun y hy => h y (by simp [hy]))]
    simp only [lowAt, List.map_cons, List.foldl_cons, hx]; rfl
theorem fold_high {l : List Item} (h : ∀ x ∈ l, isVec x.2.1 = true) : ∀ {a b c d : Int}, l.foldl (fun s y => maxV s y.2.1) [a, b, c, d] = [highAt 0 a (l.map (·.2.1)), highAt 1 b (l.map (·.2.1)), highAt 2 c (l.map (·.2.1)), highAt 3 d (l.map (·.2.1))] := by
  induction l with
  | nil => intro a b c d; rfl
  | cons x l ih =>
    intro a b c d
    obtain ⟨e, f, g, i, hx, _⟩ := isVec_four (h x (by simp))
    rw [List.foldl_cons, hx]
    simp only [maxV, List.zipWith_cons_cons, List.zipWith_nil_left]
    rw [show (fun (s : List Int) (y : Item) => List.zipWith max s y.2.1) = fun s y => maxV s y.2.1 from rfl, ih (fun y hy => h y (by simp [hy]))]
    simp only [highAt, List.map_cons, List.foldl_cons, hx]; rfl
theorem lowAt_mem {j : Nat} {l : List (List Int)} : ∀ {x : Int}, lowAt j x l = x ∨ ∃ v ∈ l, lowAt j x l = v.getD j 0 := by
  induction l with
  | nil => intro x; exact .inl rfl
  | cons v l ih =>
    intro x
    have e : lowAt j x (v :: l) = lowAt j (min x (v.getD j 0)) l := rfl
    rw [e]
    rcases ih (x := min x (v.getD j 0)) with h | ⟨u, hu, h⟩
    · rw [h]
      rcases Int.le_total x (v.getD j 0) with h' | h'
      · exact .inl (by omega)
      · exact .inr ⟨v, by simp, by omega⟩
    · exact .inr ⟨u, by simp [hu], h⟩
theorem highAt_mem {j : Nat} {l : List (List Int)} : ∀ {x : Int}, highAt j x l = x ∨ ∃ v ∈ l, highAt j x l = v.getD j 0 := by
  induction l with
  | nil => intro x; exact .inl rfl
  | cons v l ih =>
    intro x
    have e : highAt j x (v :: l) = highAt j (max x (v.getD j 0)) l := rfl
    rw [e]
    rcases ih (x := max x (v.getD j 0)) with h | ⟨u, hu, h⟩
    · rw [h]
      rcases Int.le_total x (v.getD j 0) with h' | h'
      · exact .inr ⟨v, by simp, by omega⟩
      · exact .inl (by omega)
    · exact .inr ⟨u, by simp [hu], h⟩
def boundsOf (l : List Item) : List Int × List Int × Bool :=
  if okStore l = true then (match l with
    | [] => ([], [], false)
    | x :: r => (r.foldl (fun s y => minV s y.2.1) x.2.1, r.foldl (fun s y => maxV s y.2.1) x.2.1, true)) else ([], [], false)
theorem isItem_vec {x : Item} (h : isItem x = true) : isVec x.2.1 = true := (isItem_iff.1 h).2.1

theorem fold_pair {α A B : Type} (f : A → α → A) (g : B → α → B) (l : List α) : ∀ a b, l.foldl (fun (s : A × B) y => (f s.1 y, g s.2 y)) (a, b) = (l.foldl f a, l.foldl g b) := by
  induction l with
  | nil => intro a b; rfl
  | cons x l ih => intro a b; exact ih _ _
theorem minmax_inv {a b v : List Int} (ha : a.length = 4) (hb : b.length = 4) (hv : v.length = 4) : (minV a v).length = 4 ∧ (maxV b v).length = 4 := by
  simp [minV, maxV, ha, hb, hv]
theorem four {v : List Int} (h : v.length = 4) : ∃ a b c d, v = [a, b, c, d] := by
  match v, h with
  | [a, b, c, d], _ => exact ⟨a, b, c, d, rfl⟩

theorem implBounds_ok {l : List Item} (h : SmallS l) : M.impl_BoundsOf l = some (boundsOf l) := by
  unfold M.impl_BoundsOf boundsOf
  simp only [h.impl, Option.bind_some]
  cases ho : okStore l with
  | false => simp
  | true =>
    obtain ⟨hlen, hi, _⟩ := okStore_iff.1 ho
    simp only [Bool.not_true, cond_false, Option.bind_some, if_true]
    cases l with
    | nil => rfl
    | cons x r =>
      have e0 : (((x :: r).length : Int) == 0) = false := beq_eq_false_iff_ne.2 (by simp; omega)
      have hx := isItem_vec (hi x (by simp))
      obtain ⟨a, b, c, d, hv, _⟩ := isVec_four hx
      have hr : ∀ y ∈ r, y.2.1.length = 4 := fun y hy => isItem_len (hi y (by simp [hy]))
      simp only [List.length_cons] at hlen
      have eg : gidx (x :: r) 0 = some x := gi0
      have ega : garr 4 x.2.1 = some (x.2.1.take 4) := garr_ok (by rw [hv]; simp)
      have et : x.2.1.take 4 = x.2.1 := List.take_of_length_le (by rw [hv]; simp)
      have egs : gslice (x :: r) 1 ((x :: r).length : Int) = some r := by
        rw [gslice_ok (by omega) (by simp; omega) (by omega)]; simp
      simp only [e0, cond_false, eg, ega, egs, Option.bind_some, et]
      refine fold_bind (xs := r) (fun (s : List Int × List Int) i => (s.1, s.2, i)) (fun s y => (minV s.1 y.2.1, maxV s.2 y.2.1)) (fun i s => s.1.length = 4 ∧ s.2.length = 4) (fun s => (s.1, s.2)) (s0 := (x.2.1, x.2.1)) (by rw [hv]; simp) ?_ ?_ ?_
      · rintro ⟨lo, hg⟩ i hi ⟨h1, h2⟩
        have e1 : decide ((i : Int) < (r.length : Int)) = true := decide_eq_true (by omega)
        have hy := hr r[i] (List.getElem_mem _)
        simp only at h1 h2
        refine ⟨?_, minmax_inv h1 h2 hy⟩
        simp only [e1, cond_true, gidx_nat hi, Option.bind_some, w64_succ (i := i) (by omega)]
        generalize r[i] = y at hy
        obtain ⟨a0, a1, a2, a3, rfl⟩ := four h1
        obtain ⟨b0, b1, b2, b3, rfl⟩ := four h2
        obtain ⟨ky, v, ty⟩ := y
        obtain ⟨c0, c1, c2, c3, rfl⟩ := four hy
        rw [loop4 (s1 := ([min a0 c0, a1, a2, a3], [max b0 c0, b1, b2, b3], 1)) (s2 := ([min a0 c0, min a1 c1, a2, a3], [max b0 c0, max b1 c1, b2, b3], 2)) (s3 := ([min a0 c0, min a1 c1, min a2 c2, a3], [max b0 c0, max b1 c1, max b2 c2, b3], 3)) (s4 := ([min a0 c0, min a1 c1, min a2 c2, min a3 c3], [max b0 c0, max b1 c1, max b2 c2, max b3 c3], 4)) (r := ([min a0 c0, min a1 c1, min a2 c2, min a3 c3], [max b0 c0, max b1 c1, max b2 c2, max b3 c3]))]
        · rfl
        · simp only [l4, d04, cond_true, gi0, Option.bind_some, i01]; rfl
        · simp only [l4, d14, cond_true, gi1, Option.bind_some, i12]; rfl
        · simp only [l4, d24, cond_true, gi2, Option.bind_some, i23]; rfl
        · simp only [l4, d34, cond_true, gi3, Option.bind_some, i34]; rfl
        · simp only [l4, d44, cond_false]
      · intro s _; simp
      · intro _
        rw [fold_pair (fun s (y : Item) => minV s y.2.1) (fun s (y : Item) => maxV s y.2.1)]
theorem specBounds_ok {l : List Item} (h : SmallS l) : M.spec_BoundsOf l = some (boundsOf l) := by
  unfold M.spec_BoundsOf boundsOf
  simp only [h.specv, Option.bind_some]
  cases ho : okStore l with
  | false => simp
  | true =>
    obtain ⟨hlen, hi, _⟩ := okStore_iff.1 ho
    simp only [Bool.not_true, cond_false, Option.bind_some, if_true]
    cases l with
    | nil => rfl
    | cons x r =>
      have e0 : (((x :: r).length : Int) == 0) = false := beq_eq_false_iff_ne.2 (by simp; omega)
      have hx := isItem_vec (hi x (by simp))
      obtain ⟨a, b, c, d, hv, _⟩ := isVec_four hx
      have hr : ∀ y ∈ x :: r, y.2.1.length = 4 := fun y hy => isItem_len (hi y hy)
      have eg : gidx (x :: r) 0 = some x := gi0
      have ec : M.spec_copyInts x.2.1 = some x.2.1 := copy_ok (by rw [hv]; simp)
      simp only [e0, cond_false, eg, ec, Option.bind_some]
      refine fold_bindK (xs := x :: r) 1 (by rfl) (fun (s : List Int × List Int) i => (s.1, s.2, i)) (fun s y => (minV s.1 y.2.1, maxV s.2 y.2.1)) (fun i s => s.1.length = 4 ∧ s.2.length = 4) (fun s => (s.1, s.2)) (s0 := (x.2.1, x.2.1)) (by simp) (by rw [hv]; simp) ?_ ?_ ?_
      · rintro ⟨lo, hg⟩ i hi _ ⟨h1, h2⟩
        have e1 : decide ((i : Int) < ((x :: r).length : Int)) = true := decide_eq_true (by omega)
        have hy := hr (x :: r)[i] (List.getElem_mem _)
        simp only at h1 h2
        refine ⟨?_, minmax_inv h1 h2 hy⟩
        simp only [e1, cond_true, gidx_nat hi, Option.bind_some, w64_succ (i := i) (by omega)]
        generalize (x :: r)[i] = y at hy
        obtain ⟨a0, a1, a2, a3, rfl⟩ := four h1
        obtain ⟨b0, b1, b2, b3, rfl⟩ := four h2
        obtain ⟨ky, v, ty⟩ := y
        obtain ⟨c0, c1, c2, c3, rfl⟩ := four hy
        rw [loop4 (s1 := ([min a0 c0, a1, a2, a3], [max b0 c0, b1, b2, b3], 1)) (s2 := ([min a0 c0, min a1 c1, a2, a3], [max b0 c0, max b1 c1, b2, b3], 2)) (s3 := ([min a0 c0, min a1 c1, min a2 c2, a3], [max b0 c0, max b1 c1, max b2 c2, b3], 3)) (s4 := ([min a0 c0, min a1 c1, min a2 c2, min a3 c3], [max b0 c0, max b1 c1, max b2 c2, max b3 c3], 4)) (r := ([min a0 c0, min a1 c1, min a2 c2, min a3 c3], [max b0 c0, max b1 c1, max b2 c2, max b3 c3]))]
        · rfl
        · simp only [d04, cond_true, gi0, Option.bind_some, i01]; rfl
        · simp only [d14, cond_true, gi1, Option.bind_some, i12]; rfl
        · simp only [d24, cond_true, gi2, Option.bind_some, i23]; rfl
        · simp only [d34, cond_true, gi3, Option.bind_some, i34]; rfl
        · simp only [d44, cond_false]
      · intro s _; simp
      · intro _
        rw [show List.drop 1 (x :: r) = r from rfl, fold_pair (fun s (y : Item) => minV s y.2.1) (fun s (y : Item) => maxV s y.2.1)]

/-- What the bounds are. -/
theorem bounds_vec {l : List Item} {x : Item} {r : List Item} (hl : l = x :: r) (ho : okStore l = true) :
    ∃ a b c d e f g i, (∀ k, (h : k < 4) → [a, b, c, d][k] = lowAt k (x.2.1.getD k 0) (r.map (·.2.1)) ∧ [e, f, g, i][k] = highAt k (x.2.1.getD k 0) (r.map (·.2.1))) ∧ boundsOf l = ([a, b, c, d], [e, f, g, i], true) := by
  obtain ⟨_, hi, _⟩ := okStore_iff.1 ho
  subst hl
  obtain ⟨a, b, c, d, hv, _⟩ := isVec_four (isItem_vec (hi x (by simp)))
  have hr : ∀ y ∈ r, isVec y.2.1 = true := fun y hy => isItem_vec (hi y (by simp [hy]))
  refine ⟨lowAt 0 a (r.map (·.2.1)), lowAt 1 b (r.map (·.2.1)), lowAt 2 c (r.map (·.2.1)), lowAt 3 d (r.map (·.2.1)), highAt 0 a (r.map (·.2.1)), highAt 1 b (r.map (·.2.1)), highAt 2 c (r.map (·.2.1)), highAt 3 d (r.map (·.2.1)), ?_, ?_⟩
  · intro k hk
    have : k = 0 ∨ k = 1 ∨ k = 2 ∨ k = 3 := by omega
    rcases this with rfl | rfl | rfl | rfl <;> simp [hv]
  · unfold boundsOf
    rw [if_pos ho]
    simp only [hv, fold_low hr, fold_high hr]
theorem bounds_false {l : List Item} : (boundsOf l).2.2 = false ∨ ∃ x r, l = x :: r ∧ okStore l = true := by
  unfold boundsOf
  by_cases ho : okStore l = true
  · rw [if_pos ho]
    cases l with
    | nil => exact .inl rfl
    | cons x r => exact .inr ⟨x, r, rfl, ho⟩
  · rw [if_neg ho]; exact .inl rfl
theorem bounds_len {l : List Item} : (boundsOf l).1.length < 2000000 ∧ (boundsOf l).2.1.length < 2000000 := by
  rcases bounds_false (l := l) with h | ⟨x, r, hl, ho⟩
  · unfold boundsOf at h ⊢
    split at h
    · split at h
      · simp
      · cases h
    · rename_i hn; simp [hn]
  · obtain ⟨a, b, c, d, e, f, g, i, _, hb⟩ := bounds_vec hl ho
    rw [hb]; simp

theorem foldl_or {α : Type} (p : α → Bool) : ∀ (m : List α) (b : Bool), m.foldl (fun s x => s || p x) b = (b || m.any p) := by
  intro m
  induction m with
  | nil => intro b; simp
  | cons x m ih => intro b; rw [List.foldl_cons, ih, List.any_cons, Bool.or_assoc]
theorem foldl_and {α : Type} (p : α → Bool) : ∀ (m : List α) (b : Bool), m.foldl (fun s x => s && p x) b = (b && m.all p) := by
  intro m
  induction m with
  | nil => intro b; simp
  | cons x m ih => intro b; rw [List.foldl_cons, ih, List.all_cons, Bool.and_assoc]
theorem gidx_vec {v : List Int} (hv : v.length = 4) {k : Nat} (hk : k < 4) : gidx v (k : Int) = some (v.getD k 0) := gidx_getD (by omega)

theorem law_BoundsOfTight (code : List UInt8) : M.laws_FnBoundsOfTight code = some true := by
  unfold M.laws_FnBoundsOfTight
  by_cases hc : 1048576 < (code.length : Int)
  · simp [hc]
  obtain ⟨l, h, n⟩ := drawBounds_ok code
  have s := n.small
  simp only [hc, decide_false, cond_false, h, Option.bind_some, implBounds_ok s, specBounds_ok s, equalInts_ok bounds_len.1, equalInts_ok bounds_len.2, decide_true, Bool.not_true, bne_self_eq_false]
  rcases bounds_false (l := l) with hf | ⟨x, r, hl, ho⟩
  · simp [hf]
  obtain ⟨a, b, c, d, e, f, g, i, hab, hb⟩ := bounds_vec hl ho
  simp only [hb, Bool.not_true, cond_false]
  obtain ⟨hlen, hit, _⟩ := okStore_iff.1 ho
  have hv : ∀ y ∈ l, y.2.1.length = 4 := fun y hy => isItem_len (hit y hy)
  have step : ∀ k : Nat, k < 4 → Option.bind (loopM (fun (s63 : (Bool) × (Bool) × (Int)) => (bif decide (s63.2.2 < (l.length : Int)) then
  Option.bind ((bif s63.1 then
  some true
 else
  (gidx l s63.2.2).bind fun x69 =>
  (gidx x69.2.1 (k : Int)).bind fun x79 =>
  (gidx [a, b, c, d] (k : Int)).bind fun x85 =>
  some (x79 == x85))) fun o66 =>
  Option.bind ((bif s63.2.1 then
  some true
 else
  (gidx l s63.2.2).bind fun x96 =>
  (gidx x96.2.1 (k : Int)).bind fun x106 =>
  (gidx [e, f, g, i] (k : Int)).bind fun x112 =>
  some (x106 == x112))) fun o93 =>
  some (.inl (o66, o93, w64 (s63.2.2 + 1)))
 else
  some (.inr (s63.1, s63.2.1)))) (false, false, 0)) (fun o62 =>
  Option.bind ((bif !o62.1 then
  some true
 else
  some (!o62.2))) fun o121 =>
  (bif o121 then
  some (.inr (.inr false))
 else
  some (.inl (w64 ((k : Int) + 1))))) = some ((.inl (((k + 1 : Nat) : Int)) : Int ⊕ (Unit ⊕ Bool))) := by
    intro k hk
    obtain ⟨e1, e2⟩ := hab k hk
    have g1 : gidx [a, b, c, d] (k : Int) = some (lowAt k (x.2.1.getD k 0) (r.map (·.2.1))) := by
      rw [gidx_nat (i := k) (by simpa using hk), e1]
    have g2 : gidx [e, f, g, i] (k : Int) = some (highAt k (x.2.1.getD k 0) (r.map (·.2.1))) := by
      rw [gidx_nat (i := k) (by simpa using hk), e2]
    simp only [g1, g2]
    refine fold_bind (xs := l) (fun (s : Bool × Bool) i => (s.1, s.2, i)) (fun s y => (s.1 || (y.2.1.getD k 0 == lowAt k (x.2.1.getD k 0) (r.map (·.2.1))), s.2 || (y.2.1.getD k 0 == highAt k (x.2.1.getD k 0) (r.map (·.2.1))))) (fun _ _ => True) (fun s => (s.1, s.2)) (s0 := (false, false)) trivial ?_ ?_ ?_
    · rintro ⟨p, q⟩ j hj _
      have e3 : decide ((j : Int) < (l.length : Int)) = true := decide_eq_true (by omega)
      simp only [e3, cond_true, gidx_nat hj, Option.bind_some, gidx_vec (hv _ (List.getElem_mem hj)) hk, w64_succ (i := j) (by omega), and_true]
      cases p <;> cases q <;> rfl
    · intro s _; simp
    · intro _
      rw [fold_pair (fun s (y : Item) => s || (y.2.1.getD k 0 == lowAt k (x.2.1.getD k 0) (r.map (·.2.1)))) (fun s (y : Item) => s || (y.2.1.getD k 0 == highAt k (x.2.1.getD k 0) (r.map (·.2.1)))), foldl_or, foldl_or]
      have t1 : l.any (fun y => y.2.1.getD k 0 == lowAt k (x.2.1.getD k 0) (r.map (·.2.1))) = true := by
        rw [List.any_eq_true]
        rcases lowAt_mem (j := k) (x := x.2.1.getD k 0) (l := r.map (·.2.1)) with h1 | ⟨v, hv', h1⟩
        · exact ⟨x, by rw [hl]; simp, by rw [h1]; simp⟩
        · obtain ⟨y, hy, rfl⟩ := List.mem_map.1 hv'
          exact ⟨y, by rw [hl]; simp [hy], by rw [h1]; simp⟩
      have t2 : l.any (fun y => y.2.1.getD k 0 == highAt k (x.2.1.getD k 0) (r.map (·.2.1))) = true := by
        rw [List.any_eq_true]
        rcases highAt_mem (j := k) (x := x.2.1.getD k 0) (l := r.map (·.2.1)) with h1 | ⟨v, hv', h1⟩
        · exact ⟨x, by rw [hl]; simp, by rw [h1]; simp⟩
        · obtain ⟨y, hy, rfl⟩ := List.mem_map.1 hv'
          exact ⟨y, by rw [hl]; simp [hy], by rw [h1]; simp⟩
      simp only [t1, t2, Bool.or_true, Bool.not_true, cond_false, Option.bind_some, w64_succ (i := k) (by omega)]
  have s0 := step 0 (by omega)
  have s1 := step 1 (by omega)
  have s2 := step 2 (by omega)
  have s3 := step 3 (by omega)
  simp only [Int.cast_ofNat_Int] at s0 s1 s2 s3
  rw [loop4 (s1 := 1) (s2 := 2) (s3 := 3) (s4 := 4) (r := .inl ())]
  · rfl
  · simp only [d04, cond_true]; exact s0
  · simp only [d14, cond_true]; exact s1
  · simp only [d24, cond_true]; exact s2
  · simp only [d34, cond_true]; exact s3
  · simp only [d44, cond_false]
end Go.Vs
