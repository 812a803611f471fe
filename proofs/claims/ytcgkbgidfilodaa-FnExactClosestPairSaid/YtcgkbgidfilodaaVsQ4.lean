/- Closest pairs. -/
import Derived.Test.YtcgkbgidfilodaaVsQ3
set_option linter.unusedVariables false
set_option linter.unusedSimpArgs false
namespace Go.Vs

/-- A kind of distances that exists. -/
def isKind (k : Int) : Bool := decide (1 ≤ k) && decide (k ≤ 4)
theorem isKind_iff {k : Int} : isKind k = true ↔ 1 ≤ k ∧ k ≤ 4 := by unfold isKind; simp
theorem implKind_ok (k : Int) : M.impl_validKind k = some (isKind k) := by
  unfold M.impl_validKind isKind
  by_cases h : 1 ≤ k <;> simp [h]
theorem specKind_ok (k : Int) : M.spec_validKind k = some (isKind k) := by
  unfold M.spec_validKind; simp only [spec_inR, Option.bind_some]; rfl
theorem dk_nonneg {k g0 g1 g2 g3 : Int} (h : Gaps g0 g1 g2 g3) (hk : 1 ≤ k ∧ k ≤ 4) : 0 ≤ dk k g0 g1 g2 g3 := by
  obtain ⟨n0, n1, n2, n3, m0, m1, m2, m3⟩ := h
  have s0 := sq_bounds n0 m0
  have s1 := sq_bounds n1 m1
  have s2 := sq_bounds n2 m2
  have s3 := sq_bounds n3 m3
  by_cases k1 : k = 1
  · subst k1; simp only [dk, if_true]; omega
  by_cases k2 : k = 2
  · subst k2; rw [dk, if_neg (by omega), if_pos rfl]; omega
  by_cases k3 : k = 3
  · subst k3; rw [dk, if_neg (by omega), if_neg (by omega), if_pos rfl]; omega
  · have k4 : k = 4 := by omega
    subst k4; rw [dk, if_neg (by omega), if_neg (by omega), if_neg (by omega), if_pos rfl]; omega
theorem dist_range {k : Int} {a b : List Int} (hk : isKind k = true) (ha : isVec a = true) (hb : isVec b = true) : 0 ≤ dist k a b ∧ dist k a b < 1000000 := by
  obtain ⟨x0, x1, x2, x3, rfl, c0, c1, c2, c3⟩ := isVec_cut ha
  obtain ⟨y0, y1, y2, y3, rfl, e0, e1, e2, e3⟩ := isVec_cut hb
  rw [dist_vec ha hb]
  have G := gaps_of c0 c1 c2 c3 e0 e1 e2 e3
  exact ⟨dk_nonneg G (isKind_iff.1 hk), (dk_range G).2⟩
theorem specDist_vec {k : Int} {a b : List Int} (hk : isKind k = true) (ha : isVec a = true) (hb : isVec b = true) : M.spec_dist k a b = some (dist k a b) := by
  obtain ⟨x0, x1, x2, x3, rfl, c0, c1, c2, c3⟩ := isVec_cut ha
  obtain ⟨y0, y1, y2, y3, rfl, e0, e1, e2, e3⟩ := isVec_cut hb
  rw [dist_vec ha hb]
  exact specDist_ok (isKind_iff.1 hk) c0 c1 c2 c3 e0 e1 e2 e3
theorem implDist_vec {k : Int} {a b : List Int} (ha : isVec a = true) (hb : isVec b = true) : M.impl_Distance k a b = some (dist k a b) :=
  implDistance_ok k (by rw [(isVec_iff.1 ha).1]; omega) (by rw [(isVec_iff.1 hb).1]; omega)

/-- Each element with those behind it. -/
def tl {α : Type} : List α → List (α × List α)
  | [] => []
  | x :: r => (x, r) :: tl r
theorem tl_len {α : Type} : ∀ (l : List α), (tl l).length = l.length
  | [] => rfl
  | x :: r => by simp [tl, tl_len r]
theorem tl_get {α : Type} : ∀ {l : List α} {i : Nat} (h : i < l.length) (h' : i < (tl l).length), (tl l)[i] = (l[i], l.drop (i + 1))
  | x :: r, 0, _, _ => by simp [tl]
  | x :: r, i + 1, h, _ => by
    simp only [tl, List.getElem_cons_succ, List.drop_succ_cons]
    exact tl_get (by simpa using h) _
/-- All pairs in order. -/
def pairsOf {α : Type} : List α → List (α × α)
  | [] => []
  | x :: r => r.map (fun y => (x, y)) ++ pairsOf r
theorem fold_pairs {α S : Type} (f : S → α × α → S) (l : List α) : ∀ s : S, (tl l).foldl (fun s p => p.2.foldl (fun s y => f s (p.1, y)) s) s = (pairsOf l).foldl f s := by
  induction l with
  | nil => intro s; rfl
  | cons x r ih =>
    intro s
    simp only [tl, pairsOf, List.foldl_cons, List.foldl_append, List.foldl_map]
    exact ih _
theorem pairsOf_map {α β : Type} (g : α → β) : ∀ l : List α, pairsOf (l.map g) = (pairsOf l).map fun p => (g p.1, g p.2)
  | [] => rfl
  | x :: r => by simp [pairsOf, pairsOf_map g r, List.map_map, Function.comp_def]
theorem mem_pairsOf {α : Type} {l : List α} {p : α × α} : p ∈ pairsOf l ↔ ∃ i j, ∃ (hi : i < l.length) (hj : j < l.length), i < j ∧ p = (l[i], l[j]) := by
  induction l with
  | nil => simp [pairsOf]
  | cons x r ih =>
    rw [pairsOf, List.mem_append, List.mem_map, ih]
    constructor
    · rintro (⟨y, hy, rfl⟩ | ⟨i, j, hi, hj, hij, rfl⟩)
      · obtain ⟨j, hj, rfl⟩ := List.getElem_of_mem hy
        exact ⟨0, j + 1, by simp, by simp; omega, by omega, by simp⟩
      · exact ⟨i + 1, j + 1, by simp; omega, by simp; omega, by omega, by simp⟩
    · rintro ⟨i, j, hi, hj, hij, rfl⟩
      obtain ⟨j, rfl⟩ : ∃ j', j = j' + 1 := ⟨j - 1, by omega⟩
      simp only [List.length_cons] at hi hj
      cases i with
      | zero => exact .inl ⟨r[j], List.getElem_mem _, by simp⟩
      | succ i => exact .inr ⟨i, j, by omega, by omega, by omega, by simp⟩
/-- The first with the least number. -/
def pickMin {α : Type} (d : α → Int) (a : α) (l : List α) : α := l.foldl (fun s p => if d p < d s then p else s) a
theorem pickMin_map {α β : Type} (g : α → β) (d : β → Int) (l : List α) : ∀ a, pickMin d (g a) (l.map g) = g (pickMin (fun x => d (g x)) a l) := by
  induction l with
  | nil => intro a; rfl
  | cons x r ih =>
    intro a
    simp only [pickMin, List.map_cons, List.foldl_cons] at ih ⊢
    by_cases h : d (g x) < d (g a)
    · rw [if_pos h, if_pos h]; exact ih x
    · rw [if_neg h, if_neg h]; exact ih a
/-- It is the first one: all before have greater numbers, all behind have none that is less. -/
theorem pickMin_split {α : Type} (d : α → Int) (l : List α) : ∀ a, ∃ A B, a :: l = A ++ pickMin d a l :: B ∧ (∀ x ∈ A, d (pickMin d a l) < d x) ∧ ∀ x ∈ B, d (pickMin d a l) ≤ d x := by
  induction l with
  | nil => intro a; exact ⟨[], [], rfl, by simp, by simp⟩
  | cons x r ih =>
    intro a
    by_cases h : d x < d a
    · have e : pickMin d a (x :: r) = pickMin d x r := by simp only [pickMin, List.foldl_cons, if_pos h]
      obtain ⟨A, B, h1, h2, h3⟩ := ih x
      rw [e]
      refine ⟨a :: A, B, by rw [List.cons_append, ← h1], ?_, h3⟩
      intro y hy
      rcases List.mem_cons.1 hy with rfl | hy
      · have : d (pickMin d x r) ≤ d x := by
          have hx : x ∈ A ++ pickMin d x r :: B := by rw [← h1]; simp
          rcases List.mem_append.1 hx with hx | hx
          · have := h2 x hx; omega
          · rcases List.mem_cons.1 hx with hx | hx
            · rw [← hx]; omega
            · exact h3 x hx
        omega
      · exact h2 y hy
    · have e : pickMin d a (x :: r) = pickMin d a r := by simp only [pickMin, List.foldl_cons, if_neg h]
      obtain ⟨A, B, h1, h2, h3⟩ := ih a
      rw [e]
      cases A with
      | nil =>
        simp only [List.nil_append, List.cons.injEq] at h1
        refine ⟨[], x :: B, by rw [List.nil_append, ← h1.1, ← h1.2], by simp, ?_⟩
        intro y hy
        rcases List.mem_cons.1 hy with rfl | hy
        · rw [← h1.1]; omega
        · exact h3 y hy
      | cons c A =>
        simp only [List.cons_append, List.cons.injEq] at h1
        refine ⟨a :: x :: A, B, congrArg (fun t => a :: x :: t) h1.2, ?_, h3⟩
        intro y hy
        have hca := h2 c (by simp)
        have e2 : d a = d c := by rw [h1.1]
        rcases List.mem_cons.1 hy with rfl | hy
        · omega
        · rcases List.mem_cons.1 hy with rfl | hy
          · omega
          · exact h2 y (by simp [hy])
theorem pickMin_mem {α : Type} (d : α → Int) (a : α) (l : List α) : pickMin d a l ∈ a :: l := by
  obtain ⟨A, B, h, _, _⟩ := pickMin_split d l a
  rw [h]; simp
theorem pickMin_le {α : Type} (d : α → Int) (a : α) (l : List α) : ∀ x ∈ a :: l, d (pickMin d a l) ≤ d x := by
  obtain ⟨A, B, h, h1, h2⟩ := pickMin_split d l a
  intro x hx
  rw [h] at hx
  rcases List.mem_append.1 hx with hx | hx
  · have := h1 x hx; omega
  · rcases List.mem_cons.1 hx with rfl | hx
    · omega
    · exact h2 x hx
/-- There is but one first one. -/
theorem pickMin_uniq {α : Type} {d : α → Int} {a y : α} {l A B : List α} (h : a :: l = A ++ y :: B) (h1 : ∀ x ∈ A, d y < d x) (h2 : ∀ x ∈ B, d y ≤ d x) : pickMin d a l = y := by
  obtain ⟨C, D, k, k1, k2⟩ := pickMin_split d l a
  generalize pickMin d a l = z at *
  rw [h] at k
  rcases List.append_eq_append_iff.1 k with ⟨E, e1, e2⟩ | ⟨E, e1, e2⟩
  · cases E with
    | nil => simp at e2; exact e2.1.symm
    | cons c E =>
      simp only [List.cons_append, List.cons.injEq] at e2
      have g1 := k1 y (by rw [e1, e2.1]; simp)
      have g2 := h2 z (by rw [e2.2]; simp)
      omega
  · cases E with
    | nil => simp at e2; exact e2.1
    | cons c E =>
      simp only [List.cons_append, List.cons.injEq] at e2
      have g1 := h1 z (by rw [e1, e2.1]; simp)
      have g2 := k2 y (by rw [e2.2]; simp)
      omega

/-- The distance of a pair. -/
def pdist (k : Int) (p : Item × Item) : Int := dist k p.1.2.1 p.2.2.1
/-- The closest pair of a store. -/
def closest (l : List Item) (k : Int) : Option (Item × Item) := if okStore l = true ∧ isKind k = true then (match pairsOf l with | p :: ps => some (pickMin (pdist k) p ps) | [] => none) else none
def closestPair (l : List Item) (k : Int) : Int × Int × Bool := match closest l k with | some p => (p.1.1, p.2.1, true) | none => (0, 0, false)
theorem pairs_nil {l : List Item} : pairsOf l = [] ↔ l.length < 2 := by
  match l with
  | [] => simp [pairsOf]
  | [x] => simp [pairsOf]
  | x :: y :: r => simp [pairsOf]
theorem implClosest_ok {l : List Item} {k : Int} (h : SmallS l) : M.impl_ClosestPair l k = some (closestPair l k) := by
  unfold M.impl_ClosestPair closestPair closest
  simp only [h.impl, implKind_ok, Option.bind_some]
  cases ho : okStore l with
  | false => simp
  | true =>
  cases hk : isKind k with
  | false => simp
  | true =>
  obtain ⟨hlen, hit, _⟩ := okStore_iff.1 ho
  simp only [Bool.not_true, cond_false, Option.bind_some, and_self, if_true]
  cases hp : pairsOf l with
  | nil =>
    have := pairs_nil.1 hp
    have e : decide ((l.length : Int) < 2) = true := decide_eq_true (by omega)
    simp [e]
  | cons p ps =>
    have : ¬ l.length < 2 := fun h => by rw [pairs_nil.2 h] at hp; cases hp
    have e : decide ((l.length : Int) < 2) = false := decide_eq_false (by omega)
    simp only [e, cond_false]
    let upd : Int × Int × Int → Item × Item → Int × Int × Int := fun s q => if pdist k q < s.2.2 then (q.1.1, q.2.1, pdist k q) else s
    refine fold_bind (xs := tl l) (fun (s : Int × Int × Int) i => (s.1, s.2.1, s.2.2, i)) (fun s q => q.2.foldl (fun s y => upd s (q.1, y)) s) (fun _ _ => True) (fun s => (s.1, s.2.1)) (s0 := (0, 0, 1000000)) trivial ?_ ?_ ?_
    · intro s i hi _
      have hi' : i < l.length := by rw [tl_len] at hi; exact hi
      have e1 : decide ((i : Int) < (l.length : Int)) = true := decide_eq_true (by omega)
      have eg : gslice l ((i + 1 : Nat) : Int) (l.length : Int) = some (l.drop (i + 1)) := by
        rw [gslice_ok (by omega) (by omega) (by omega)]; simp
      rw [tl_get hi' hi]
      simp only [e1, cond_true, gidx_nat hi', Option.bind_some, w64_succ (i := i) (by omega), eg, and_true]
      refine fold_bind (xs := l.drop (i + 1)) (fun (s : Int × Int × Int) i => (s.1, s.2.1, s.2.2, i)) (fun s y => upd s (l[i], y)) (fun _ _ => True) (fun s => (s.1, s.2.1, s.2.2)) (s0 := s) trivial ?_ ?_ ?_
      · intro s j hj _
        have e2 : decide ((j : Int) < ((l.drop (i + 1)).length : Int)) = true := decide_eq_true (by omega)
        have hm : (l.drop (i + 1))[j] ∈ l := List.mem_of_mem_drop (List.getElem_mem hj)
        have hjl : j < 16 := by rw [List.length_drop] at hj; omega
        simp only [e2, cond_true, gidx_nat hj, Option.bind_some, w64_succ (i := j) (by omega), implDist_vec (isItem_vec (hit _ (List.getElem_mem hi'))) (isItem_vec (hit _ hm)), and_true]
        by_cases hc : pdist k (l[i], (l.drop (i + 1))[j]) < s.2.2
        · have hc' : dist k l[i].2.1 (l.drop (i + 1))[j].2.1 < s.2.2 := hc
          have hu : upd s (l[i], (l.drop (i + 1))[j]) = (l[i].1, (l.drop (i + 1))[j].1, pdist k (l[i], (l.drop (i + 1))[j])) := if_pos hc
          simp only [hc', decide_true, cond_true, Option.bind_some, hu]; rfl
        · have hc' : ¬ dist k l[i].2.1 (l.drop (i + 1))[j].2.1 < s.2.2 := hc
          have hu : upd s (l[i], (l.drop (i + 1))[j]) = s := if_neg hc
          simp only [hc', decide_false, cond_false, Option.bind_some, hu]
      · intro s _; simp
      · intro _; rfl
    · intro s _; rw [tl_len]; simp
    · intro _
      rw [fold_pairs upd, hp]
      have key : ∀ (ps : List (Item × Item)) (q : Item × Item), ps.foldl upd (q.1.1, q.2.1, pdist k q) = ((pickMin (pdist k) q ps).1.1, (pickMin (pdist k) q ps).2.1, pdist k (pickMin (pdist k) q ps)) := by
        intro ps
        induction ps with
        | nil => intro q; rfl
        | cons x r ih =>
          intro q
          simp only [List.foldl_cons, pickMin]
          by_cases hc : pdist k x < pdist k q
          · rw [if_pos hc]
            have : upd (q.1.1, q.2.1, pdist k q) x = (x.1.1, x.2.1, pdist k x) := if_pos hc
            rw [this]; exact ih x
          · rw [if_neg hc]
            have : upd (q.1.1, q.2.1, pdist k q) x = (q.1.1, q.2.1, pdist k q) := if_neg hc
            rw [this]; exact ih q
      have hp1 : upd (0, 0, 1000000) p = (p.1.1, p.2.1, pdist k p) := by
        refine if_pos ?_
        obtain ⟨i, j, hi, hj, _, e⟩ := mem_pairsOf.1 (show p ∈ pairsOf l by rw [hp]; simp)
        rw [e]
        exact (dist_range hk (isItem_vec (hit _ (List.getElem_mem hi))) (isItem_vec (hit _ (List.getElem_mem hj)))).2
      rw [List.foldl_cons, hp1, key]
theorem specClosest_ok {l : List Item} {k : Int} (h : SmallS l) : M.spec_ClosestPair l k = some (closestPair l k) := by
  unfold M.spec_ClosestPair closestPair closest
  simp only [h.specv, specKind_ok, Option.bind_some]
  cases ho : okStore l with
  | false => simp
  | true =>
  cases hk : isKind k with
  | false => simp
  | true =>
  obtain ⟨hlen, hit, _⟩ := okStore_iff.1 ho
  simp only [Bool.not_true, cond_false, Option.bind_some, and_self, if_true]
  by_cases h2 : l.length < 2
  · have e : decide ((l.length : Int) < 2) = true := decide_eq_true (by omega)
    rw [pairs_nil.2 h2]; simp [e]
  have e : decide ((l.length : Int) < 2) = false := decide_eq_false (by omega)
  simp only [e, cond_false]
  -- numbers of items
  let at' : Nat → Item := fun i => l.getD i zItem
  have hat : ∀ i (h : i < l.length), at' i = l[i] := fun i h => by simp [at', List.getD, h]
  have hvec : ∀ i, i < l.length → isVec (at' i).2.1 = true := fun i h => by rw [hat i h]; exact isItem_vec (hit _ (List.getElem_mem h))
  let d : Nat × Nat → Int := fun p => dist k (at' p.1).2.1 (at' p.2).2.1
  let upd : Nat × Nat → Nat × Nat → Nat × Nat := fun s q => if d q < d s then q else s
  have hgi : ∀ i, i < l.length → gidx l (i : Int) = some (at' i) := fun i h => by rw [gidx_nat h, hat i h]
  refine fold_bind (xs := tl (List.range l.length)) (fun (s : Nat × Nat) i => ((s.1 : Int), (s.2 : Int), i)) (fun s q => q.2.foldl (fun s y => upd s (q.1, y)) s) (fun _ s => s.1 < l.length ∧ s.2 < l.length) (fun s => ((s.1 : Int), (s.2 : Int))) (s0 := (0, 1)) (by simp only; omega) ?_ ?_ ?_
  · rintro s i hi ⟨hs1, hs2⟩
    have hi' : i < l.length := by rw [tl_len, List.length_range] at hi; exact hi
    have e1 : decide ((i : Int) < (l.length : Int)) = true := decide_eq_true (by omega)
    rw [tl_get (by simpa using hi') hi]
    simp only [e1, cond_true, w64_succ (i := i) (by omega), List.getElem_range]
    have inv : ∀ (m : List Nat), (∀ y ∈ m, y < l.length) → ∀ s : Nat × Nat, s.1 < l.length ∧ s.2 < l.length → (m.foldl (fun s y => upd s (i, y)) s).1 < l.length ∧ (m.foldl (fun s y => upd s (i, y)) s).2 < l.length := by
      intro m
      induction m with
      | nil => intro _ s hs; exact hs
      | cons y m ih =>
        intro hm s hs
        rw [List.foldl_cons]
        refine ih (fun z hz => hm z (by simp [hz])) _ ?_
        show (if d (i, y) < d s then (i, y) else s).1 < _ ∧ (if d (i, y) < d s then (i, y) else s).2 < _
        split
        · exact ⟨hi', hm y (by simp)⟩
        · exact hs
    refine ⟨?_, inv _ (fun y hy => by simpa using List.mem_of_mem_drop hy) s ⟨hs1, hs2⟩⟩
    refine fold_bindK (xs := List.range l.length) (i + 1) (by rfl) (fun (s : Nat × Nat) i => ((s.1 : Int), (s.2 : Int), i)) (fun s y => upd s (i, y)) (fun _ s => s.1 < l.length ∧ s.2 < l.length) (fun s => ((s.1 : Int), (s.2 : Int))) (s0 := s) (by simp; omega) ⟨hs1, hs2⟩ ?_ ?_ ?_
    · rintro s j hj hij ⟨hs1, hs2⟩
      have hj' : j < l.length := by simpa using hj
      have e2 : decide ((j : Int) < (l.length : Int)) = true := decide_eq_true (by omega)
      simp only [e2, cond_true, hgi i hi', hgi j hj', hgi s.1 hs1, hgi s.2 hs2, Option.bind_some, w64_succ (i := j) (by omega), specDist_vec hk (hvec i hi') (hvec j hj'), specDist_vec hk (hvec s.1 hs1) (hvec s.2 hs2), List.getElem_range]
      by_cases hc : d (i, j) < d s
      · have hc' : dist k (at' i).2.1 (at' j).2.1 < dist k (at' s.1).2.1 (at' s.2).2.1 := hc
        have hu : upd s (i, j) = (i, j) := if_pos hc
        simp only [hc', decide_true, cond_true, Option.bind_some, hu]
        exact ⟨by first | rfl | trivial, hi', hj'⟩
      · have hc' : ¬ dist k (at' i).2.1 (at' j).2.1 < dist k (at' s.1).2.1 (at' s.2).2.1 := hc
        have hu : upd s (i, j) = s := if_neg hc
        simp only [hc', decide_false, cond_false, Option.bind_some, hu]
        exact ⟨by first | rfl | trivial, hs1, hs2⟩
    · intro s _; simp
    · intro _; rfl
  · intro s _; rw [tl_len]; simp
  · rintro hs
    rw [fold_pairs upd] at hs ⊢
    simp only [hgi _ hs.1, hgi _ hs.2, Option.bind_some]
    have hl : l = (List.range l.length).map at' := by
      apply List.ext_getElem
      · simp
      · intro i h1 h2; simp [hat i h1]
    have hpairs : pairsOf l = (pairsOf (List.range l.length)).map fun p => (at' p.1, at' p.2) := by
      have := pairsOf_map at' (List.range l.length)
      rw [← hl] at this; exact this
    obtain ⟨n, hn⟩ : ∃ n, l.length = n + 2 := ⟨l.length - 2, by omega⟩
    obtain ⟨ps, hps⟩ : ∃ ps, pairsOf (List.range l.length) = (0, 1) :: ps := by
      rw [hn, List.range_succ_eq_map, List.range_succ_eq_map]
      exact ⟨_, rfl⟩
    rw [hpairs, hps]
    have e0 : upd (0, 1) (0, 1) = (0, 1) := if_neg (by omega)
    rw [List.foldl_cons, e0, List.map_cons]
    have hpm := pickMin_map (fun p : Nat × Nat => (at' p.1, at' p.2)) (pdist k) ps (0, 1)
    simp only at hpm ⊢
    rw [hpm]
    rfl

theorem drawPair_ok (code : List UInt8) : ∃ l k, M.spec_DrawClosestPair code = some (l, k) ∧ NearS l := by
  obtain ⟨r, h, g⟩ := newReader_ok code
  obtain ⟨l, r1, h1, g1, n⟩ := anyStore_ok (by omega) g
  obtain ⟨k, r2, h2, _⟩ := kind_ok (by omega) g1
  exact ⟨l, k, by unfold M.spec_DrawClosestPair; simp only [h, h1, h2, Option.bind_some], n⟩
theorem itemOf_ok {l : List Item} {k : Int} (h : l.length < 2000000) : M.laws_itemOf l k = some ((l.find? fun x => x.1 == k).getD zItem) := by
  unfold M.laws_itemOf
  have key : ∀ m i : Nat, i + m = l.length → ∀ z : Item, ∃ r, loopM (fun (s4 : ((Int) × (List Int) × (Int)) × (Int)) => ((bif decide (s4.2 < (l.length : Int)) then
  (gidx l s4.2).bind fun x9 =>
  (bif x9.1 == k then
  (gidx l s4.2).bind fun x16 =>
  some (.inr (.inr (x16.1, x16.2.1, x16.2.2)))
 else
  some (.inl ((s4.1.1, s4.1.2.1, s4.1.2.2), w64 (s4.2 + 1))))
 else
  some (.inr (.inl (s4.1.1, s4.1.2.1, s4.1.2.2)))) : Option ((Item × Int) ⊕ (Item ⊕ Item)))) (z, (i : Int)) = some r ∧ r = (match (l.drop i).find? (fun x => x.1 == k) with | some x => .inr x | none => (.inl z : Item ⊕ Item)) := by
    intro m
    induction m with
    | zero =>
      intro i hi z
      have : i = l.length := by omega
      subst this
      exact ⟨.inl z, by rw [loopM_eq]; simp [selim], by simp⟩
    | succ m ih =>
      intro i hi z
      have hlt : i < l.length := by omega
      have e1 : decide ((i : Int) < (l.length : Int)) = true := decide_eq_true (by omega)
      rw [loopM_eq, List.drop_eq_getElem_cons hlt, List.find?_cons]
      simp only [e1, cond_true, gidx_nat hlt, Option.bind_some, w64_succ (i := i) (by omega)]
      cases hc : l[i].1 == k with
      | true => exact ⟨_, rfl, rfl⟩
      | false =>
        simp only [cond_false, selim, Option.bind_some]
        exact ih (i + 1) (by omega) z
  obtain ⟨r, h1, h2⟩ := key l.length 0 (by omega) zItem
  simp only [Int.cast_ofNat_Int, List.drop_zero] at h1 h2
  rw [show ((0, [], 0) : Int × List Int × Int) = zItem from rfl, h1, h2]
  cases l.find? (fun x => x.1 == k) <;> rfl
theorem find_key {l : List Item} {x : Item} (hp : l.Pairwise (fun x y => x.1 < y.1)) (hx : x ∈ l) : l.find? (fun y => y.1 == x.1) = some x := by
  obtain ⟨i, hi, rfl⟩ := List.getElem_of_mem hx
  rw [List.find?_eq_some_iff_getElem]
  refine ⟨by simp, i, hi, rfl, fun j hj => ?_⟩
  have := List.pairwise_iff_getElem.1 hp _ _ (by omega) hi hj
  simp; omega
/-- A loop that runs through, from a later place on. -/
theorem loop_pass {R : Type} {n : Nat} {f : Int → Option (Int ⊕ R)} {r : R} (k : Nat) (hk : k ≤ n) (hs : ∀ i, k ≤ i → i < n → f (i : Int) = some (.inl ((i + 1 : Nat) : Int))) (he : f (n : Int) = some (.inr r)) : loopM f (k : Int) = some r := by
  refine loop_to (fun s => ∃ i : Nat, s = (i : Int) ∧ k ≤ i ∧ i ≤ n) (fun s => (n - s).toNat) ?_ ⟨k, rfl, Nat.le_refl _, hk⟩
  rintro _ ⟨i, rfl, h1, h2⟩
  by_cases hi : i < n
  · exact .inl ⟨_, hs i h1 hi, ⟨i + 1, rfl, by omega, by omega⟩, by omega⟩
  · have : i = n := by omega
    subst this; exact .inr he
/-- What is known of the closest pair. -/
theorem closest_some {l : List Item} {k : Int} {p : Item × Item} (h : closest l k = some p) : okStore l = true ∧ isKind k = true ∧ p ∈ pairsOf l ∧ ∀ q ∈ pairsOf l, pdist k p ≤ pdist k q := by
  unfold closest at h
  split at h
  · rename_i hok
    refine ⟨hok.1, hok.2, ?_⟩
    cases hp : pairsOf l with
    | nil => rw [hp] at h; cases h
    | cons q ps =>
      rw [hp] at h
      simp only [Option.some.injEq] at h
      subst h
      exact ⟨pickMin_mem _ _ _, pickMin_le _ _ _⟩
  · cases h
theorem law_ClosestPair (code : List UInt8) : M.laws_FnClosestPair code = some true := by
  unfold M.laws_FnClosestPair
  by_cases hc : 1048576 < (code.length : Int)
  · simp [hc]
  obtain ⟨l, k, h, n⟩ := drawPair_ok code
  have s := n.small
  simp only [hc, decide_false, cond_false, h, Option.bind_some, implClosest_ok s, specClosest_ok s, bne_self_eq_false, BEq.rfl, cond_true]
  unfold closestPair
  cases hcl : closest l k with
  | none => simp
  | some p =>
    obtain ⟨ho, hk, hp, hmin⟩ := closest_some hcl
    obtain ⟨hlen, hit, hpw⟩ := okStore_iff.1 ho
    obtain ⟨a, b, ha, hb, hab, rfl⟩ := mem_pairsOf.1 hp
    have hv : ∀ i (h : i < l.length), isVec l[i].2.1 = true := fun i h => isItem_vec (hit _ (List.getElem_mem h))
    simp only [Bool.not_true, cond_false, itemOf_ok s.hL, find_key hpw (List.getElem_mem ha), find_key hpw (List.getElem_mem hb), Option.getD_some, Option.bind_some, implDist_vec (hv a ha) (hv b hb)]
    have hmin' : ∀ i j, (hi : i < l.length) → (hj : j < l.length) → i < j → ¬ dist k l[i].2.1 l[j].2.1 < dist k l[a].2.1 l[b].2.1 := by
      intro i j hi hj hij
      have := hmin (l[i], l[j]) (mem_pairsOf.2 ⟨i, j, hi, hj, hij, rfl⟩)
      simp only [pdist] at this; omega
    have e0 : (0 : Int) = ((0 : Nat) : Int) := rfl
    rw [e0, loop_pass (n := l.length) (r := .inl ()) 0 (by omega)]
    · have h1 := List.pairwise_iff_getElem.1 hpw _ _ ha hb hab
      have h2 := (dist_range hk (hv a ha) (hv b hb)).1
      simp [selim, h1, h2]
    · intro i _ hi
      have e1 : decide ((i : Int) < (l.length : Int)) = true := decide_eq_true (by omega)
      simp only [e1, cond_true, w64_succ (i := i) (by omega)]
      rw [loop_pass (n := l.length) (r := .inl ()) (i + 1) (by omega)]
      · rfl
      · intro j hij hj
        have e2 : decide ((j : Int) < (l.length : Int)) = true := decide_eq_true (by omega)
        have := hmin' i j hi hj (by omega)
        simp only [e2, cond_true, gidx_nat hi, gidx_nat hj, Option.bind_some, implDist_vec (hv i hi) (hv j hj), this, decide_false, cond_false, w64_succ (i := j) (by omega)]
      · simp
    · simp
end Go.Vs
