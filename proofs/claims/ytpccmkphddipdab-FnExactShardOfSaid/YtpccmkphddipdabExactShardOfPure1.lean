/- Plain facts of what the functions compute. -/
import Derived.Test.YtpccmkphddipdabExactShardOfEng1
import Derived.Test.YtpccmkphddipdabExactShardOfLib1
set_option linter.unusedVariables false
set_option linter.unusedSimpArgs false
namespace Go.Vs

theorem gidx_nat {α : Type} {xs : List α} {i : Nat} (h : i < xs.length) : gidx xs (i : Int) = some xs[i] := by
  unfold gidx
  rw [if_pos (by omega)]
  simp [h]
end Go.Vs

namespace Go.Vs

/-- A reader that has been asked at most k times. -/
def Good (k : Nat) (r : List UInt8 × Int) : Prop := r.1.length ≤ 2000 ∧ 0 ≤ r.2 ∧ r.2 ≤ k
theorem Good.mono {k m : Nat} {r : List UInt8 × Int} (h : Good k r) (hm : k ≤ m) : Good m r := ⟨h.1, h.2.1, by have := h.2.2; omega⟩

/-- A valid vector. -/
def isVec (v : List Int) : Bool := decide (v.length = 4) && v.all fun x => decide (-100 ≤ x) && decide (x ≤ 100)
end Go.Vs
namespace Go.Vs
/-- A vector that may be drawn. -/
def Near (v : List Int) : Prop := v.length ≤ 5 ∧ ∀ x ∈ v, -101 ≤ x ∧ x ≤ 101
end Go.Vs

namespace Go.Vs

end Go.Vs

namespace Go.Vs

/-- How far two coordinates lie apart. -/
def gap (x y : Int) : Int := max (x - y) (y - x)
/-- The distance of a kind, from the gaps. -/
def dk (k g0 g1 g2 g3 : Int) : Int :=
  if k = 1 then g0 + g1 + g2 + g3 else if k = 2 then max (max (max (max 0 g0) g1) g2) g3 else if k = 3 then g0 * g0 + g1 * g1 + g2 * g2 + g3 * g3 else if k = 4 then min g0 1 + min g1 1 + min g2 1 + min g3 1 else -1

end Go.Vs

namespace Go.Vs

/-- What Distance answers. -/
def dist (k : Int) (a b : List Int) : Int :=
  if isVec a = true ∧ isVec b = true then dk k (gap (a.getD 0 0) (b.getD 0 0)) (gap (a.getD 1 0) (b.getD 1 0)) (gap (a.getD 2 0) (b.getD 2 0)) (gap (a.getD 3 0) (b.getD 3 0)) else -1
/-- Gaps of two vectors. -/
structure Gaps (g0 g1 g2 g3 : Int) : Prop where
  n0 : 0 ≤ g0
  n1 : 0 ≤ g1
  n2 : 0 ≤ g2
  n3 : 0 ≤ g3
  m0 : g0 ≤ 200
  m1 : g1 ≤ 200
  m2 : g2 ≤ 200
  m3 : g3 ≤ 200
end Go.Vs

namespace Go.Vs

end Go.Vs

namespace Go.Vs

end Go.Vs

namespace Go.Vs

end Go.Vs

namespace Go.Vs

end Go.Vs

namespace Go.Vs

end Go.Vs

namespace Go.Vs

end Go.Vs

namespace Go.Vs

abbrev Item := Int × (List Int) × Int
/-- A valid item. -/
def isItem (x : Item) : Bool := (decide (1 ≤ x.1) && decide (x.1 ≤ 99)) && (isVec x.2.1 && (decide (0 ≤ x.2.2) && decide (x.2.2 ≤ 15)))
/-- Valid items, with ascending keys above p. -/
def okFrom : Int → List Item → Bool
  | _, [] => true
  | p, x :: l => (isItem x && decide (p < x.1)) && okFrom x.1 l
def okStore (l : List Item) : Bool := decide (l.length ≤ 16) && okFrom 0 l

end Go.Vs

namespace Go.Vs

end Go.Vs

namespace Go.Vs

section
variable {α S T R U : Type} {xs : List α}
end

/-! ## Valid stores as lists that ascend -/
/-- A list of items that is small enough to be looked at. -/
def SmallS (l : List Item) : Prop := l.length ≤ 1048576 ∧ ∀ x ∈ l, x.2.1.length ≤ 1048576
theorem SmallS.hb {l : List Item} (h : SmallS l) : ∀ x ∈ l, x.2.1.length < 2000000 := fun x hx => by have := h.2 x hx; omega
/-! ## Putting -/
def putS (l : List Item) (x : Item) : List Item := l.filter (fun y => decide (y.1 < x.1)) ++ x :: l.filter (fun y => decide (x.1 < y.1))
def putItem (l : List Item) (x : Item) : List Item × Bool := if okStore l = true ∧ isItem x = true ∧ (putS l x).length ≤ 16 then (putS l x, true) else ([], false)
/-! ## Draws -/
/-- An item that may be drawn. -/
def NearI (x : Item) : Prop := (0 ≤ x.1 ∧ x.1 ≤ 100) ∧ Near x.2.1 ∧ -1 ≤ x.2.2 ∧ x.2.2 ≤ 16
end Go.Vs

namespace Go.Vs

end Go.Vs

namespace Go.Vs

section
variable {α S T R U : Type} {xs : List α}
end

end Go.Vs

namespace Go.Vs

/-! ## InBox -/
end Go.Vs

namespace Go.Vs

end Go.Vs

namespace Go.Vs

def dropS (l : List Item) (k : Int) : List Item := l.filter (fun x => x.1 != k)
def dropItem (l : List Item) (k : Int) : List Item × Bool := if okStore l = true ∧ (l.any fun x => x.1 == k) = true then (dropS l k, true) else ([], false)
/-! ## What is drawn -/
theorem NearI.le {x : Item} (h : NearI x) : x.2.1.length ≤ 1048576 := by have := h.2.1.1; omega
section
variable {code : List UInt8}
end
end Go.Vs

namespace Go.Vs

end Go.Vs

namespace Go.Vs

end Go.Vs

namespace Go.Vs

end Go.Vs

namespace Go.Vs

noncomputable def G.sift {α : Type} (cmp : α → α → Option Int) (data_0 : List α) (lo_1 : Int) (hi_2 : Int) (first_3 : Int) : Option ((List α)) :=
  Option.bind (loopM (fun (s2 : (List α) × (Int)) => (bif decide (hi_2 ≤ (w64 ((w64 (2 * s2.2)) + 1))) then
  some (.inr (.inl s2.1))
 else
  Option.bind ((bif decide ((w64 ((w64 ((w64 (2 * s2.2)) + 1)) + 1)) < hi_2) then
  (gidx s2.1 (w64 (first_3 + (w64 ((w64 (2 * s2.2)) + 1))))).bind fun x8 =>
  (gidx s2.1 (w64 ((w64 (first_3 + (w64 ((w64 (2 * s2.2)) + 1)))) + 1))).bind fun x15 =>
  (cmp x8 x15).bind fun r23 =>
  some (decide (r23 < 0))
 else
  some false)) fun o6 =>
  Option.bind ((bif o6 then
  some (w64 ((w64 ((w64 (2 * s2.2)) + 1)) + 1))
 else
  some (w64 ((w64 (2 * s2.2)) + 1)))) fun o29 =>
  (gidx s2.1 (w64 (first_3 + s2.2))).bind fun x32 =>
  (gidx s2.1 (w64 (first_3 + o29))).bind fun x39 =>
  (cmp x32 x39).bind fun r47 =>
  (bif !(decide (r47 < 0)) then
  some (.inr (.inr s2.1))
 else
  (gidx s2.1 (w64 (first_3 + o29))).bind fun x52 =>
  (gidx s2.1 (w64 (first_3 + s2.2))).bind fun x59 =>
  (gidx s2.1 (w64 (first_3 + s2.2))).bind fun x66 =>
  (gidx (s2.1.set (w64 (first_3 + s2.2)).toNat x52) (w64 (first_3 + o29))).bind fun x72 =>
  some (.inl (((s2.1.set (w64 (first_3 + s2.2)).toNat x52).set (w64 (first_3 + o29)).toNat x59), o29))))) (data_0, lo_1)) (selim (fun t78 => some t78)
   (fun t81 => some t81))

noncomputable def G.heap {α : Type} (cmp : α → α → Option Int) (data_0 : List α) (a_1 : Int) (b_2 : Int) : Option ((List α)) :=
  Option.bind (loopM (fun (s2 : (List α) × (Int)) => (bif decide (0 ≤ s2.2) then
  (G.sift cmp s2.1 s2.2 (w64 (b_2 - a_1)) a_1).bind fun r6 =>
  some (.inl (r6, w64 (s2.2 - 1)))
 else
  some (.inr s2.1))) (data_0, w64 ((w64 ((w64 (b_2 - a_1)) - 1)).tdiv 2))) fun o1 =>
  Option.bind (loopM (fun (s14 : (List α) × (Int)) => (bif decide (0 ≤ s14.2) then
  (gidx s14.1 (w64 (a_1 + s14.2))).bind fun x18 =>
  (gidx s14.1 a_1).bind fun x25 =>
  (gidx s14.1 a_1).bind fun x32 =>
  (gidx (s14.1.set a_1.toNat x18) (w64 (a_1 + s14.2))).bind fun x38 =>
  (G.sift cmp ((s14.1.set a_1.toNat x18).set (w64 (a_1 + s14.2)).toNat x25) 0 s14.2 a_1).bind fun r44 =>
  some (.inl (r44, w64 (s14.2 - 1)))
 else
  some (.inr s14.1))) (o1, w64 ((w64 (b_2 - a_1)) - 1))) fun o13 =>
  some o13

noncomputable def G.o2 {α : Type} (cmp : α → α → Option Int) (data_0 : List α) (a_1 : Int) (b_2 : Int) (swaps_3 : Int) : Option (Int × Int × Int) :=
  (gidx data_0 b_2).bind fun x1 =>
  (gidx data_0 a_1).bind fun x8 =>
  (cmp x1 x8).bind fun r16 =>
  (bif decide (r16 < 0) then
  some (b_2, a_1, w64 (swaps_3 + 1))
 else
  some (a_1, b_2, swaps_3))

section
end
end Go.Vs

namespace Go.Vs

section
variable {α : Type} [Inhabited α]
def el (d : List α) (i : Nat) : α := d.getD i default
theorem el_lt {d : List α} {i : Nat} (h : i < d.length) : el d i = d[i] := by simp [el, List.getD, h]
/-- d' is d with the places a ≤ i < b permuted among themselves. -/
structure PermR (a b : Nat) (d d' : List α) : Prop where
  len : d'.length = d.length
  out : ∀ i, i < a ∨ b ≤ i → el d' i = el d i
  perm : d'.Perm d
theorem PermR.refl {a b : Nat} (d : List α) : PermR a b d d := ⟨rfl, fun _ _ => rfl, List.Perm.refl _⟩
theorem PermR.trans {a b : Nat} {d d' d'' : List α} (h : PermR a b d d') (k : PermR a b d' d'') : PermR a b d d'' :=
  ⟨k.len.trans h.len, fun i hi => (k.out i hi).trans (h.out i hi), k.perm.trans h.perm⟩
theorem PermR.mono {a b a' b' : Nat} {d d' : List α} (h : PermR a b d d') (ha : a' ≤ a) (hb : b ≤ b') : PermR a' b' d d' :=
  ⟨h.len, fun i hi => h.out i (by omega), h.perm⟩
/-- What is in the part is in the part. -/
theorem PermR.mem {a b : Nat} {d d' : List α} (h : PermR a b d d') (hab : a ≤ b) (hb : b ≤ d.length) {i : Nat} (h1 : a ≤ i) (h2 : i < b) : ∃ j, a ≤ j ∧ j < b ∧ el d' i = el d j := by
  have cut : ∀ (e : List α), e.length = d.length → e = e.take a ++ ((e.take b).drop a ++ e.drop b) := by
    intro e he
    rw [← List.append_assoc]
    have : e.take a ++ (e.take b).drop a = e.take b := by
      have := List.take_append_drop a (e.take b)
      rwa [List.take_take, Nat.min_eq_left hab] at this
    rw [this, List.take_append_drop]
  have hl := h.len
  have e1 : d'.take a = d.take a := by
    apply List.ext_getElem
    · simp [hl]
    · intro k h3 h4
      simp only [List.length_take] at h3 h4
      rw [List.getElem_take, List.getElem_take, ← el_lt, ← el_lt]
      exact h.out k (by omega)
  have e2 : d'.drop b = d.drop b := by
    apply List.ext_getElem
    · simp [hl]
    · intro k h3 h4
      simp only [List.length_drop] at h3 h4
      rw [List.getElem_drop, List.getElem_drop, ← el_lt, ← el_lt]
      exact h.out (b + k) (by omega)
  have hp := h.perm
  rw [cut d' hl, cut d rfl, e1, e2] at hp
  have hp2 := (List.perm_append_right_iff _).1 ((List.perm_append_left_iff _).1 hp)
  have hm : el d' i ∈ (d'.take b).drop a := by
    rw [el_lt (by omega)]
    refine List.mem_iff_getElem.2 ⟨i - a, by simp; omega, ?_⟩
    simp only [List.getElem_drop, List.getElem_take]
    congr 1; omega
  have hm2 := hp2.mem_iff.1 hm
  obtain ⟨k, hk, e⟩ := List.mem_iff_getElem.1 hm2
  simp only [List.length_drop, List.length_take] at hk
  refine ⟨a + k, by omega, by omega, ?_⟩
  rw [← e, el_lt (by omega)]
  simp only [List.getElem_drop, List.getElem_take]
end

/-- What is asked of the order of these elements. -/
structure Lin {α : Type} (lt : α → α → Bool) (p : α → Prop) : Prop where
  irrefl : ∀ x, p x → lt x x = false
  trans : ∀ x y z, p x → p y → p z → lt x y = true → lt y z = true → lt x z = true
  total : ∀ x y, p x → p y → x ≠ y → lt x y = true ∨ lt y x = true
theorem Lin.asymm {α : Type} {lt : α → α → Bool} {p : α → Prop} (h : Lin lt p) {x y : α} (hx : p x) (hy : p y) (hl : lt x y = true) : lt y x = false := by
  cases e : lt y x with
  | false => rfl
  | true => have := h.trans x y x hx hy hx hl e; rw [h.irrefl x hx] at this; cases this
/-- Not less than: transitive. -/
theorem Lin.ntrans {α : Type} {lt : α → α → Bool} {p : α → Prop} (h : Lin lt p) {x y z : α} (hx : p x) (hy : p y) (hz : p z) (h1 : lt x y = false) (h2 : lt y z = false) : lt x z = false := by
  cases e : lt x z with
  | false => rfl
  | true =>
    rcases Classical.em (x = y) with rfl | hne
    · rw [h2] at e; cases e
    · rcases h.total x y hx hy hne with h' | h'
      · rw [h1] at h'; cases h'
      · have := h.trans y x z hy hx hz h' e
        rw [h2] at this; cases this
def AllP {α : Type} [Inhabited α] (p : α → Prop) (d : List α) : Prop := ∀ i, i < d.length → p (el d i)
theorem AllP.of {α : Type} [Inhabited α] {p : α → Prop} {d : List α} (h : ∀ x ∈ d, p x) : AllP p d := fun i hi => h _ (by rw [el_lt hi]; exact List.getElem_mem _)
theorem AllP.perm {α : Type} [Inhabited α] {p : α → Prop} {d d' : List α} (h : AllP p d) (hp : d'.Perm d) : AllP p d' := by
  refine AllP.of fun x hx => ?_
  obtain ⟨i, hi, e⟩ := List.mem_iff_getElem.1 (hp.mem_iff.1 hx)
  rw [← e, ← el_lt hi]; exact h i hi
/-- Ascending on a ≤ i < b. -/
def Asc {α : Type} [Inhabited α] (lt : α → α → Bool) (a b : Nat) (d : List α) : Prop := ∀ i j, a ≤ i → i < j → j < b → lt (el d j) (el d i) = false
end Go.Vs

namespace Go.Vs

section
variable {α : Type} {cmp : α → α → Option Int} {lt : α → α → Bool} {p : α → Prop}
end

section
variable {α : Type} [Inhabited α] {cmp : α → α → Option Int} {lt : α → α → Bool} {p : α → Prop}
end
end Go.Vs

namespace Go.Vs

section
variable {α : Type} [Inhabited α] {cmp : α → α → Option Int} {lt : α → α → Bool} {p : α → Prop}
end
end Go.Vs

namespace Go.Vs

section
variable {α : Type} [Inhabited α] {cmp : α → α → Option Int} {lt : α → α → Bool} {p : α → Prop}

/-- What the partition gives. -/
structure Parted (lt : α → α → Bool) (a b : Nat) (d : List α) (m : Nat) (d' : List α) : Prop where
  ge : a ≤ m
  le : m < b
  perm : PermR a b d d'
  low : ∀ i, a ≤ i → i < m → lt (el d' i) (el d' m) = true
  high : ∀ i, m < i → i < b → lt (el d' i) (el d' m) = false
end
end Go.Vs

namespace Go.Vs

section
variable {α : Type} [Inhabited α] {cmp : α → α → Option Int} {lt : α → α → Bool} {p : α → Prop}

/-- Ascending, but for pairs that are both in the part. -/
def NIn (lt : α → α → Bool) (a0 b0 a b : Nat) (d : List α) : Prop := ∀ i j, a0 ≤ i → i < j → j < b0 → ¬ (a ≤ i ∧ j < b) → lt (el d j) (el d i) = false
theorem NIn.perm {a0 b0 a b : Nat} {d d' : List α} (h : NIn lt a0 b0 a b d) (hP : PermR a b d d') (ha : a0 ≤ a) (hab : a ≤ b) (hb : b ≤ b0) (hb0 : b0 ≤ d.length) : NIn lt a0 b0 a b d' := by
  intro i j h1 h2 h3 h4
  have cl : ∀ k, ∃ k', el d' k = el d k' ∧ ((a ≤ k ∧ k < b) → a ≤ k' ∧ k' < b) ∧ (¬ (a ≤ k ∧ k < b) → k' = k) := by
    intro k
    by_cases hk : a ≤ k ∧ k < b
    · obtain ⟨k', g1, g2, g3⟩ := hP.mem hab (by omega) hk.1 hk.2
      exact ⟨k', g3, fun _ => ⟨g1, g2⟩, fun h => absurd hk h⟩
    · exact ⟨k, hP.out k (by omega), fun h => absurd h hk, fun _ => rfl⟩
  obtain ⟨i', e1, q1, q2⟩ := cl i
  obtain ⟨j', e2, q3, q4⟩ := cl j
  rw [e1, e2]
  by_cases hi : a ≤ i ∧ i < b
  · have := q1 hi
    by_cases hj : a ≤ j ∧ j < b
    · exact absurd ⟨hi.1, hj.2⟩ h4
    · have := q4 hj; subst this; exact h i' j' (by omega) (by omega) h3 (by omega)
  · have := q2 hi; subst this
    by_cases hj : a ≤ j ∧ j < b
    · have := q3 hj; exact h i' j' h1 (by omega) (by omega) (by omega)
    · have := q4 hj; subst this; exact h i' j' h1 h2 h3 (by omega)
theorem NIn.done {a0 b0 a b : Nat} {d : List α} (h : NIn lt a0 b0 a b d) (hA : Asc lt a b d) : Asc lt a0 b0 d := by
  intro i j h1 h2 h3
  by_cases hc : a ≤ i ∧ j < b
  · exact hA i j hc.1 h2 hc.2
  · exact h i j h1 h2 h3 hc
end
end Go.Vs

namespace Go.Vs

abbrev Hit := Int × Int
/-- Which one of two hits is nearer. -/
def ltH (x y : Hit) : Bool := decide (x.2 < y.2 ∨ x.2 = y.2 ∧ x.1 < y.1)
theorem ltH_iff {x y : Hit} : ltH x y = true ↔ x.2 < y.2 ∨ x.2 = y.2 ∧ x.1 < y.1 := by simp [ltH]
theorem ltH_false {x y : Hit} : ltH x y = false ↔ ¬ (x.2 < y.2 ∨ x.2 = y.2 ∧ x.1 < y.1) := by simp [ltH]
theorem linH : Lin ltH (fun _ => True) where
  irrefl x _ := by rw [ltH_false]; omega
  trans x y z _ _ _ h1 h2 := by rw [ltH_iff] at *; omega
  total x y _ _ h := by
    rw [ltH_iff, ltH_iff]
    by_cases e : x.2 = y.2
    · have : x.1 ≠ y.1 := fun e2 => h (Prod.ext e2 e)
      omega
    · omega
end Go.Vs

namespace Go.Vs

/-- Into its place. -/
def insH (x : Hit) : List Hit → List Hit
  | [] => [x]
  | y :: r => if ltH x y then x :: y :: r else y :: insH x r
def AscH (l : List Hit) : Prop := l.Pairwise fun x y => ltH y x = false
theorem insH_perm (x : Hit) (l : List Hit) : (insH x l).Perm (x :: l) := by
  induction l with
  | nil => exact List.Perm.refl _
  | cons y r ih =>
    unfold insH
    split
    · exact List.Perm.refl _
    · exact (List.Perm.cons y ih).trans (List.Perm.swap x y r)
theorem insH_asc {x : Hit} {l : List Hit} (h : AscH l) : AscH (insH x l) := by
  induction l with
  | nil => exact List.pairwise_singleton _ _
  | cons y r ih =>
    obtain ⟨h1, h2⟩ := List.pairwise_cons.1 h
    unfold insH
    split
    · rename_i hlt
      refine List.pairwise_cons.2 ⟨fun z hz => ?_, h⟩
      rcases List.mem_cons.1 hz with rfl | hz
      · exact linH.asymm trivial trivial hlt
      · exact linH.ntrans trivial trivial trivial (h1 z hz) (linH.asymm trivial trivial hlt)
    · rename_i hlt
      refine List.pairwise_cons.2 ⟨fun z hz => ?_, ih h2⟩
      rcases List.mem_cons.1 ((insH_perm x r).mem_iff.1 hz) with rfl | hz
      · simpa using hlt
      · exact h1 z hz
theorem ltH_antisymm {x y : Hit} (h1 : ltH x y = false) (h2 : ltH y x = false) : x = y := by
  rcases Classical.em (x = y) with h | h
  · exact h
  · rcases linH.total x y trivial trivial h with h' | h'
    · rw [h1] at h'; cases h'
    · rw [h2] at h'; cases h'
theorem asc_uniq {l m : List Hit} (hl : AscH l) (hm : AscH m) (h : l.Perm m) : l = m :=
  List.Perm.eq_of_pairwise (le := fun x y => ltH y x = false) (fun _ _ _ _ h1 h2 => ltH_antisymm h2 h1) hl hm h
/-- All in order. -/
def isort (l : List Hit) : List Hit := l.foldl (fun S x => insH x S) []
theorem isort_spec (l : List Hit) : AscH (isort l) ∧ (isort l).Perm l := by
  have key : ∀ (l S : List Hit), AscH S → AscH (l.foldl (fun S x => insH x S) S) ∧ (l.foldl (fun S x => insH x S) S).Perm (S ++ l) := by
    intro l
    induction l with
    | nil => intro S h; exact ⟨h, by simp⟩
    | cons x r ih =>
      intro S h
      obtain ⟨h1, h2⟩ := ih (insH x S) (insH_asc h)
      refine ⟨h1, h2.trans ?_⟩
      have := List.Perm.append_right r (insH_perm x S)
      exact this.trans (List.perm_middle.symm)
  exact key l [] List.Pairwise.nil
theorem isort_uniq {l m : List Hit} (hm : AscH m) (h : m.Perm l) : isort l = m := asc_uniq (isort_spec l).1 hm ((isort_spec l).2.trans h.symm)
def topH (k : Nat) (l : List Hit) : List Hit := (isort l).take k
theorem topH_sub (k : Nat) (l : List Hit) : ∀ x ∈ topH k l, x ∈ l := fun x hx => (isort_spec l).2.mem_iff.1 (List.mem_of_mem_take hx)

/-! ## What the heap keeps -/
/-! ## The searches -/
/-- The hits of a store. -/
def hitsOf (l : List Item) (kind : Int) (at_ : List Int) : List Hit := l.map fun x => (x.1, dist kind x.2.1 at_)
theorem inRange_ok (n a b : Int) : M.spec_inRange n a b = some (decide (a ≤ n ∧ n ≤ b)) := by
  unfold M.spec_inRange
  by_cases h : a ≤ n <;> simp [h]
end Go.Vs

namespace Go.Vs

theorem hitsOf_mem {l : List Item} {kind : Int} {at_ : List Int} {h : Hit} : h ∈ hitsOf l kind at_ ↔ ∃ x ∈ l, h = (x.1, dist kind x.2.1 at_) := by
  unfold hitsOf
  rw [List.mem_map]
  constructor
  · rintro ⟨x, hx, rfl⟩; exact ⟨x, hx, rfl⟩
  · rintro ⟨x, hx, rfl⟩; exact ⟨x, hx, rfl⟩
end Go.Vs

namespace Go.Vs

end Go.Vs

namespace Go.Vs

end Go.Vs

namespace Go.Vs

end Go.Vs

namespace Go.Vs

end Go.Vs

namespace Go.Vs

end Go.Vs

namespace Go.Vs

/-- Items that may be put into a tree. -/
structure OkL (l : List Item) : Prop where
  len : l.length ≤ 16
  vec : ∀ x ∈ l, isVec x.2.1 = true
  keys : (l.map (·.1)).Nodup
theorem OkL.inj {l : List Item} (h : OkL l) : ∀ x y, x ∈ l → y ∈ l → x.1 = y.1 → x = y := fun x y hx hy e => by
  obtain ⟨i, hi, rfl⟩ := List.mem_iff_getElem.1 hx
  obtain ⟨j, hj, rfl⟩ := List.mem_iff_getElem.1 hy
  have hpw := List.pairwise_iff_getElem.1 (List.pairwise_map.1 h.keys)
  rcases Nat.lt_trichotomy i j with h | h | h
  · exact absurd e (hpw i j hi hj h)
  · subst h; rfl
  · exact absurd e.symm (hpw j i hj hi h)
theorem OkL.sub {l m : List Item} (h : OkL l) (hs : List.Sublist m l) : OkL m :=
  ⟨Nat.le_trans hs.length_le h.len, fun x hx => h.vec x (hs.subset hx), List.Nodup.sublist (hs.map _) h.keys⟩
theorem OkL.perm {l m : List Item} (h : OkL l) (hp : m.Perm l) : OkL m :=
  ⟨by rw [hp.length_eq]; exact h.len, fun x hx => h.vec x (hp.mem_iff.1 hx), (hp.map (·.1)).nodup_iff.2 h.keys⟩

end Go.Vs

namespace Go.Vs

abbrev Nod := Int × Int × Int × Int
def nodesT : Tr Item → Nat → List Nod
  | .nil, _ => []
  | .node x n l r, a => (x.1, n, (bif l.isNil then -1 else ((a + 1 : Nat) : Int)), (bif r.isNil then -1 else ((a + 1 + (nodesT l (a + 1)).length : Nat) : Int))) :: (nodesT l (a + 1) ++ nodesT r (a + 1 + (nodesT l (a + 1)).length))
def Tr.size : Tr Item → Nat
  | .nil => 0
  | .node _ _ l r => l.size + r.size + 1
theorem nodesT_len : ∀ (t : Tr Item) (a : Nat), (nodesT t a).length = t.size
  | .nil, _ => rfl
  | .node x n l r, a => by simp only [nodesT, List.length_cons, List.length_append, nodesT_len l, nodesT_len r, Tr.size]
end Go.Vs

namespace Go.Vs

end Go.Vs

namespace Go.Vs

end Go.Vs

namespace Go.Vs

end Go.Vs

namespace Go.Vs

def itemsT : Tr Item → List Item
  | .nil => []
  | .node x _ l r => x :: (itemsT l ++ itemsT r)
/-- A tree's nodes stand in a list, from a place on. -/
def Sub (L : List Nod) (t : Tr Item) (a : Nat) : Prop := ∃ pre post, L = pre ++ nodesT t a ++ post ∧ pre.length = a
theorem Sub.right {L : List Nod} {x : Item} {q : Int} {l r : Tr Item} {a : Nat} (h : Sub L (.node x q l r) a) : Sub L r (a + 1 + l.size) := by
  obtain ⟨pre, post, rfl, rfl⟩ := h
  exact ⟨pre ++ (nodesT (.node x q l r) pre.length).take 1 ++ nodesT l (pre.length + 1), post, by simp [nodesT, nodesT_len], by simp [nodesT, nodesT_len]; omega⟩
theorem Sub.get {L : List Nod} {x : Item} {q : Int} {l r : Tr Item} {a : Nat} (h : Sub L (.node x q l r) a) : ∃ hl : a < L.length, L[a] = (x.1, q, (bif l.isNil then -1 else ((a + 1 : Nat) : Int)), (bif r.isNil then -1 else ((a + 1 + l.size : Nat) : Int))) := by
  obtain ⟨pre, post, rfl, rfl⟩ := h
  exact ⟨by simp [nodesT], by simp [nodesT, nodesT_len]⟩
theorem Sub.gidx {L : List Nod} {x : Item} {q : Int} {l r : Tr Item} {a : Nat} (h : Sub L (.node x q l r) a) : Go.Vs.gidx L (a : Int) = some (x.1, q, (bif l.isNil then -1 else ((a + 1 : Nat) : Int)), (bif r.isNil then -1 else ((a + 1 + l.size : Nat) : Int))) := by
  obtain ⟨hl, e⟩ := h.get
  rw [gidx_nat hl, e]
theorem sub_self (t : Tr Item) : Sub (nodesT t 0) t 0 := ⟨[], [], by simp, rfl⟩

end Go.Vs

namespace Go.Vs

def hitV (kd : Int) (v : List Int) (x : Item) : Hit := (x.1, dist kd x.2.1 v)
def hitsV (kd : Int) (v : List Int) (l : List Item) : List Hit := l.map (hitV kd v)
/-- How far a search looks. -/
def reachH (k : Nat) (V : List Hit) : Int := if (topH k V).length < k then 1000000 else ((topH k V).getD (k - 1) (0, 0)).2
/-! ## Lists with the same nearest ones -/
def SameT (k : Nat) (U V : List Hit) : Prop := topH k U = topH k V
theorem SameT.refl (k : Nat) (U : List Hit) : SameT k U U := rfl
theorem SameT.trans {k : Nat} {U V W : List Hit} (h : SameT k U V) (g : SameT k V W) : SameT k U W := Eq.trans h g
theorem SameT.symm {k : Nat} {U V : List Hit} (h : SameT k U V) : SameT k V U := Eq.symm h
theorem SameT.perm {k : Nat} {U V : List Hit} (h : U.Perm V) : SameT k U V := by
  show topH k U = topH k V
  unfold topH
  rw [isort_uniq (isort_spec V).1 ((isort_spec V).2.trans h.symm)]
/-! ## Trees find the nearest -/
/-! ## At how many nodes they look -/
noncomputable def vis (kd : Int) (v : List Int) (k : Nat) : Tr Item → List Hit → Nat
  | .nil, _ => 0
  | .node x q l r, P =>
    if dist kd x.2.1 v ≤ q then
      vis kd v k l (P ++ [hitV kd v x]) + 1 + (if q - dist kd x.2.1 v ≤ reachH k (P ++ [hitV kd v x] ++ hitsV kd v (itemsT l)) then vis kd v k r (P ++ [hitV kd v x] ++ hitsV kd v (itemsT l)) else 0)
    else
      vis kd v k r (P ++ [hitV kd v x]) + 1 + (if dist kd x.2.1 v - q ≤ reachH k (P ++ [hitV kd v x] ++ hitsV kd v (itemsT r)) then vis kd v k l (P ++ [hitV kd v x] ++ hitsV kd v (itemsT r)) else 0)
end Go.Vs

namespace Go.Vs

/-! ## The program's search -/
/-! ## What is answered -/
end Go.Vs

namespace Go.Vs

/-! ## Exact laws -/
end Go.Vs

namespace Go.Vs

end Go.Vs

namespace Go.Vs

/-! ## The first of the least -/
def SmallC (cs : List (List Int)) : Prop := cs.length < 2000000 ∧ ∀ c ∈ cs, c.length < 2000000
/-! ## Drawn centres -/
/-! ## Laws -/
theorem SmallC.sub {cs ds : List (List Int)} (h : SmallC cs) (hs : ds.Sublist cs) : SmallC ds := ⟨by have := hs.length_le; have := h.1; omega, fun c hc => h.2 c (hs.subset hc)⟩
/-! ## Items and their centres -/
/-! ## Spreads -/
end Go.Vs

namespace Go.Vs

section
variable {cmp : Int → Int → Option Int} {D : Nat → Int} {n : Nat}
end

end Go.Vs

namespace Go.Vs

end Go.Vs

namespace Go.Vs

/-! ## Settling -/
end Go.Vs

namespace Go.Vs

/-! ## What searches cost -/
/-! ## Exact laws -/
end Go.Vs

namespace Go.Vs

/-! ## All items are in a list -/
end Go.Vs

namespace Go.Vs

end Go.Vs

namespace Go.Vs

end Go.Vs

namespace Go.Vs

end Go.Vs

namespace Go.Vs

end Go.Vs

namespace Go.Vs

end Go.Vs

namespace Go.Vs

end Go.Vs

namespace Go.Vs

end Go.Vs

namespace Go.Vs

/-! ## Planes -/
end Go.Vs

namespace Go.Vs

/-! ## Tables -/
/-! ## Vectors of codes -/
/-! ## Distances of codes -/
end Go.Vs

namespace Go.Vs

end Go.Vs

namespace Go.Vs

/-! ## Bits -/
end Go.Vs

namespace Go.Vs

/-! ## Opposite vectors -/
/-! ## A plane looks at itself -/
/-! ## Twice a vector -/
end Go.Vs

namespace Go.Vs

/-! ## Buckets -/
end Go.Vs

namespace Go.Vs

theorem topH_perm {k : Nat} {l m : List Hit} (h : l.Perm m) : topH k l = topH k m := by
  unfold topH
  rw [isort_uniq (isort_spec m).1 ((isort_spec m).2.trans h.symm)]
/-! ## Ranked again -/
/-! ## The nearest of a bucket -/
end Go.Vs

namespace Go.Vs

/-- All items but one. -/
def others (l : List Item) (x : Item) : List Item := l.filter fun y => decide (y.1 ≠ x.1)
/-- The hits of the neighbours of an item. -/
def nbH (l : List Item) (kind : Int) (many : Nat) (x : Item) : List Hit := topH many (hitsOf (others l x) kind x.2.1)
def nbs (l : List Item) (kind : Int) (many : Nat) (x : Item) : List Int := (nbH l kind many x).map (·.1)
theorem mem_others {l : List Item} {x y : Item} : y ∈ others l x ↔ y ∈ l ∧ y.1 ≠ x.1 := by unfold others; simp
theorem mem_nbs {l : List Item} {kind : Int} {many : Nat} {x : Item} {c : Int} (h : c ∈ nbs l kind many x) : ∃ y ∈ l, y.1 = c ∧ y.1 ≠ x.1 := by
  unfold nbs at h
  obtain ⟨t, ht, rfl⟩ := List.mem_map.1 h
  obtain ⟨y, hy, rfl⟩ := hitsOf_mem.1 (topH_sub _ _ t ht)
  obtain ⟨h1, h2⟩ := mem_others.1 hy
  exact ⟨y, h1, rfl, h2⟩
/-! ## Walks -/
end Go.Vs

namespace Go.Vs

/-! ## Walks -/
end Go.Vs

namespace Go.Vs

/-- From a key to a neighbour's. -/
def Edge (l : List Item) (kind : Int) (many : Nat) (c d : Int) : Prop := ∃ x ∈ l, x.1 = c ∧ d ∈ nbs l kind many x
inductive Reach (l : List Item) (kind : Int) (many : Nat) (key : Int) : Int → Prop
  | base : Reach l kind many key key
  | step {c d : Int} : Reach l kind many key c → Edge l kind many c d → Reach l kind many key d
theorem Edge.mem {l : List Item} {kind : Int} {many : Nat} {c d : Int} (e : Edge l kind many c d) : ∃ y ∈ l, y.1 = d := by
  obtain ⟨x, _, _, h2⟩ := e
  obtain ⟨y, hy, h3, _⟩ := mem_nbs h2; exact ⟨y, hy, h3⟩
theorem Reach.mem {l : List Item} {kind : Int} {many : Nat} {key c : Int} (hk : ∃ y ∈ l, y.1 = key) (r : Reach l kind many key c) : ∃ y ∈ l, y.1 = c := by
  cases r with
  | base => exact hk
  | step _ e => exact e.mem
end Go.Vs

namespace Go.Vs

/-! ## Filters -/
/-! ## What is drawn -/
end Go.Vs

namespace Go.Vs

end Go.Vs

namespace Go.Vs

end Go.Vs

namespace Go.Vs

end Go.Vs

namespace Go.Vs

end Go.Vs

namespace Go.Vs

/-! ## Walks -/
end Go.Vs

namespace Go.Vs

theorem validKey_ok (k : Int) : M.impl_validKey k = some (decide (1 ≤ k ∧ k ≤ 99)) := by
  unfold M.impl_validKey
  by_cases h1 : 1 ≤ k
  · by_cases h2 : k ≤ 99 <;> simp [h1, h2]
  · simp [h1]
end Go.Vs

namespace Go.Vs

theorem nodup_of {l : List Hit} (h : (l.map (·.1)).Nodup) : l.Nodup := List.Pairwise.of_map (·.1) (fun a b h e => h (congrArg _ e)) h
end Go.Vs

namespace Go.Vs

/-- The best of its key. -/
def Bst (S : List Hit) (x : Hit) : Prop := x ∈ S ∧ ∀ y ∈ S, y.1 = x.1 → x.2 ≤ y.2
structure BL (S L : List Hit) : Prop where
  keys : (L.map (·.1)).Nodup
  mem : ∀ x, x ∈ L ↔ Bst S x
theorem BL.nodup {S L : List Hit} (h : BL S L) : L.Nodup := nodup_of h.keys
theorem BL.same {S S' L L' : List Hit} {k : Nat} (h : BL S L) (h' : BL S' L') (hs : ∀ x, x ∈ S ↔ x ∈ S') : topH k L = topH k L' := by
  refine topH_perm ((List.perm_ext_iff_of_nodup h.nodup h'.nodup).2 fun x => ?_)
  rw [h.mem, h'.mem]
  unfold Bst
  constructor
  · rintro ⟨h1, h2⟩; exact ⟨(hs x).1 h1, fun y hy => h2 y ((hs y).2 hy)⟩
  · rintro ⟨h1, h2⟩; exact ⟨(hs x).2 h1, fun y hy => h2 y ((hs y).1 hy)⟩
end Go.Vs

namespace Go.Vs

structure Frs (P s : List Hit) : Prop where
  sub : s.Sublist P
  keys : (s.map (·.1)).Nodup
  all : ∀ y ∈ P, ∃ z ∈ s, z.1 = y.1 ∧ z.2 ≤ y.2
theorem Frs.nil : Frs [] [] := ⟨List.Sublist.refl _, by simp, by simp⟩
end Go.Vs

namespace Go.Vs

end Go.Vs

namespace Go.Vs

end Go.Vs

namespace Go.Vs

end Go.Vs

namespace Go.Vs

end Go.Vs

namespace Go.Vs

def shK (k s : Int) : Int := 389 * k % 1009 * s / 1009
theorem shK_range {k s : Int} (h : 1 ≤ s) : 0 ≤ shK k s ∧ shK k s < s := by
  unfold shK
  have h1 : 0 ≤ 389 * k % 1009 := Int.emod_nonneg _ (by omega)
  have h2 : 389 * k % 1009 < 1009 := Int.emod_lt_of_pos _ (by omega)
  refine ⟨Int.ediv_nonneg (Int.mul_nonneg h1 (by omega)) (by omega), ?_⟩
  rw [Int.ediv_lt_iff_lt_mul (by omega), Int.mul_comm s 1009]
  exact Int.mul_lt_mul_of_pos_right h2 (by omega)
end Go.Vs

namespace Go.Vs

end Go.Vs

namespace Go.Vs

theorem specShK_ok {k s : Int} (hk : 1 ≤ k ∧ k ≤ 99) (hs : 1 ≤ s ∧ s ≤ 8) : M.spec_shardOf k s = some (shK k s) := by
  unfold M.spec_shardOf
  have h1 : 0 ≤ 389 * k % 1009 := Int.emod_nonneg _ (by omega)
  have h2 : 389 * k % 1009 < 1009 := Int.emod_lt_of_pos _ (by omega)
  have e1 : w64 (389 * k) = 389 * k := w64_id (by omega) (by omega)
  have e2 : (389 * k).tmod 1009 = 389 * k % 1009 := Int.tmod_eq_emod_of_nonneg (by omega)
  have h3 : 0 ≤ 389 * k % 1009 * s := Int.mul_nonneg h1 (by omega)
  have h4 : 389 * k % 1009 * s ≤ 1009 * 8 := Int.mul_le_mul (by omega) hs.2 (by omega) (by omega)
  have e3 : w64 (389 * k % 1009 * s) = 389 * k % 1009 * s := w64_id (by omega) (by omega)
  have e4 : (389 * k % 1009 * s).tdiv 1009 = 389 * k % 1009 * s / 1009 := Int.tdiv_eq_ediv_of_nonneg h3
  have hr := shK_range (k := k) hs.1
  rw [e1, e2, e3, e4]
  unfold shK at *
  rw [w64_id (by omega) (by omega)]
def shV (k s : Int) : Int := if (1 ≤ k ∧ k ≤ 99) ∧ 1 ≤ s ∧ s ≤ 8 then shK k s else -1
theorem specShV_ok (k s : Int) : M.spec_ShardOf k s = some (shV k s) := by
  unfold M.spec_ShardOf shV
  simp only [inRange_ok, Option.bind_some]
  by_cases hk : 1 ≤ k ∧ k ≤ 99
  rotate_left
  · have := decide_eq_false hk
    rw [if_neg fun h => hk h.1]
    simp [this]
  by_cases hs : 1 ≤ s ∧ s ≤ 8
  rotate_left
  · have := decide_eq_false hs
    rw [if_neg fun h => hs h.2]
    simp [this, decide_eq_true hk]
  rw [if_pos ⟨hk, hs⟩]
  simp [decide_eq_true hk, decide_eq_true hs, specShK_ok hk hs]
theorem implShV_ok (k s : Int) : M.impl_ShardOf k s = some (shV k s) := by
  unfold M.impl_ShardOf M.impl_validShards shV
  simp only [validKey_ok, Option.bind_some]
  by_cases hk : 1 ≤ k ∧ k ≤ 99
  rotate_left
  · rw [if_neg fun h => hk h.1]
    simp [decide_eq_false hk]
  by_cases hs : 1 ≤ s ∧ s ≤ 8
  rotate_left
  · rw [if_neg fun h => hs h.2]
    by_cases h1 : 1 ≤ s
    · have : ¬ s ≤ 8 := fun h => hs ⟨h1, h⟩
      simp [decide_eq_true hk, h1, this]
    · simp [decide_eq_true hk, h1]
  rw [if_pos ⟨hk, hs⟩]
  have h := specShK_ok hk hs
  unfold M.spec_shardOf at h
  simp only [decide_eq_true hk, decide_eq_true hs.1, decide_eq_true hs.2, Bool.not_true, cond_true, cond_false, Option.bind_some]
  exact h
end Go.Vs

namespace Go.Vs

abbrev Ent := Int × Item
def okEn (e : Ent) : Bool := if e.1 = 1 then isItem e.2 else decide (e.1 = 2) && (decide (1 ≤ e.2.1 ∧ e.2.1 ≤ 99) && (decide (e.2.2.1.length = 0) && decide (e.2.2.2 = 0)))
def okLg (log : List Ent) : Bool := log.all okEn && decide (log.length ≤ 32)
def SmallE (log : List Ent) : Prop := log.length ≤ 1048576 ∧ ∀ e ∈ log, e.2.2.1.length ≤ 1048576
def apV (l : List Item) (e : Ent) : List Item × Bool := if e.1 = 1 then putItem l e.2 else dropItem l e.2.1
/-- A store after the entries up to the first one that can't be done, and how many were done. -/
def repL (l : List Item) : List Ent → List Item × Nat
  | [] => (l, 0)
  | e :: es => if (apV l e).2 = true then ((repL (apV l e).1 es).1, (repL (apV l e).1 es).2 + 1) else (l, 0)
end Go.Vs

namespace Go.Vs

end Go.Vs

namespace Go.Vs

end Go.Vs

namespace Go.Vs

end Go.Vs

namespace Go.Vs

end Go.Vs

namespace Go.Vs

end Go.Vs

namespace Go.Vs

/-! ## Short logs -/
end Go.Vs

namespace Go.Vs

end Go.Vs

namespace Go.Vs

theorem SmallE.sub {a b : List Ent} (h : SmallE b) (s : a.Sublist b) : SmallE a := ⟨by have := s.length_le; have := h.1; omega, fun e he => h.2 e (s.subset he)⟩
end Go.Vs

namespace Go.Vs

/-! ## What such a log does -/
end Go.Vs

namespace Go.Vs

end Go.Vs

namespace Go.Vs

abbrev Hist := List Ent × List Int
/-- Times that do not fall. -/
def okTimes (ts : List Int) : Bool := ts.all (fun t => decide (1 ≤ t ∧ t ≤ 1000)) && decide (ts.Pairwise (· ≤ ·))
def okHi (h : Hist) : Bool := okLg h.1 && (decide (h.2.length = h.1.length) && (okTimes h.2 && decide ((repL [] h.1).2 = h.1.length)))
/-- How many times there are up to one. -/
def upT (ts : List Int) (t : Int) : Nat := ts.countP fun x => decide (x ≤ t)
def storeAt (h : Hist) (t : Int) : List Item := if okHi h = true ∧ 0 ≤ t ∧ t ≤ 1000 then (repL [] (h.1.take (upT h.2 t))).1 else []
end Go.Vs

namespace Go.Vs

end Go.Vs

namespace Go.Vs

/-! ## Pairs -/
end Go.Vs

namespace Go.Vs

end Go.Vs

namespace Go.Vs

/-! ## Walks -/
end Go.Vs

namespace Go.Vs

/-! ## Reach -/
end Go.Vs

namespace Go.Vs

/-! ## The closest pair -/
end Go.Vs

namespace Go.Vs

end Go.Vs

namespace Go.Vs

/-! ## Bit by bit -/
/-! ## Filtered stores -/
/-! ## Two filters as one -/
end Go.Vs

namespace Go.Vs

end Go.Vs

namespace Go.Vs

end Go.Vs

namespace Go.Vs

theorem law_ExactShardOf (k s : Int) : M.laws_FnExactShardOf k s = some true := by
  unfold M.laws_FnExactShardOf
  simp only [specShV_ok, implShV_ok, Option.bind_some, bne_self_eq_false, cond_false]
end Go.Vs
