/- Plain facts of what the functions compute. -/
import Derived.Test.YtnkflplbeagljacExactFuseRanksEng1
import Derived.Test.YtnkflplbeagljacExactFuseRanksLib1
set_option linter.unusedVariables false
set_option linter.unusedSimpArgs false
namespace Go.Vs

theorem loop_run {S R : Type} {f : S → Option (S ⊕ R)} {r : R} (k : Nat) (st : Nat → S) (hs : ∀ i, i < k → f (st i) = some (.inl (st (i + 1)))) (he : f (st k) = some (.inr r)) : loopM f (st 0) = some r := by
  induction k generalizing st with
  | zero => rw [loopM_eq, he]; rfl
  | succ k ih =>
    rw [loopM_eq, hs 0 (by omega)]
    exact ih (fun i => st (i + 1)) (fun i hi => hs (i + 1) (by omega)) he

theorem gidx_nat {α : Type} {xs : List α} {i : Nat} (h : i < xs.length) : gidx xs (i : Int) = some xs[i] := by
  unfold gidx
  rw [if_pos (by omega)]
  simp [h]
theorem gapp_ok {α : Type} {xs ys : List α} (h : xs.length + ys.length ≤ 2147483648) : gapp xs ys = some (xs ++ ys) := by unfold gapp; rw [if_pos h]
theorem gslice_ok {α : Type} {xs : List α} {l h : Int} (h0 : 0 ≤ l) (h1 : l ≤ h) (h2 : h ≤ xs.length) : gslice xs l h = some ((xs.take h.toNat).drop l.toNat) := by
  unfold gslice; rw [if_pos ⟨h0, h1, h2⟩]
theorem gmake_ok {α : Type} {k : Int} {z : α} (h0 : 0 ≤ k) (h1 : k ≤ 2147483648) : gmake k z = some (List.replicate k.toNat z) := by unfold gmake; rw [if_pos ⟨h0, h1⟩]
/-- A loop that looks at each element, and leaves at the first that fails. -/
theorem loop_all {α R : Type} {xs : List α} {P : α → Bool} {r : R} {f : Int → Option (Int ⊕ (Unit ⊕ R))} (hs : ∀ i (h : i < xs.length), f (i : Int) = some (if P xs[i] then .inl ((i : Int) + 1) else .inr (.inr r))) (he : f (xs.length : Int) = some (.inr (.inl ()))) :
    loopM f 0 = some (if xs.all P then .inl () else .inr r) := by
  have key : ∀ m k : Nat, k + m = xs.length → loopM f (k : Int) = some (if (xs.drop k).all P then .inl () else .inr r) := by
    intro m
    induction m with
    | zero =>
      intro k hk
      have : k = xs.length := by omega
      subst this
      rw [loopM_eq, he]; simp [selim]
    | succ m ih =>
      intro k hk
      have hlt : k < xs.length := by omega
      rw [loopM_eq, hs k hlt, List.drop_eq_getElem_cons hlt]
      by_cases hp : P xs[k] = true
      · rw [if_pos hp]
        have := ih (k + 1) (by omega)
        simp only [Int.natCast_add, Int.cast_ofNat_Int] at this
        simp only [List.all_cons, hp, Bool.true_and, selim, this, Option.bind_some]
      · rw [if_neg hp]
        simp only [List.all_cons, Bool.not_eq_true] at hp ⊢
        simp only [hp, Bool.false_and, selim, Option.bind_some]; rfl
  have := key xs.length 0 (by omega)
  simpa using this
end Go.Vs

namespace Go.Vs

/-- A reader that has been asked at most k times. -/
def Good (k : Nat) (r : List UInt8 × Int) : Prop := r.1.length ≤ 2000 ∧ 0 ≤ r.2 ∧ r.2 ≤ k
theorem Good.mono {k m : Nat} {r : List UInt8 × Int} (h : Good k r) (hm : k ≤ m) : Good m r := ⟨h.1, h.2.1, by have := h.2.2; omega⟩

/-- A valid vector. -/
def isVec (v : List Int) : Bool := decide (v.length = 4) && v.all fun x => decide (-100 ≤ x) && decide (x ≤ 100)
end Go.Vs
namespace Go.Vs
/-- A vector that may be drawn. -/
def Near (v : List Int) : Prop := v.length ≤ 5 ∧ ∀ x ∈ v, -101 ≤ x ∧ x ≤ 101
end Go.Vs

namespace Go.Vs

end Go.Vs

namespace Go.Vs

/-- How far two coordinates lie apart. -/
def gap (x y : Int) : Int := max (x - y) (y - x)
/-- The distance of a kind, from the gaps. -/
def dk (k g0 g1 g2 g3 : Int) : Int :=
  if k = 1 then g0 + g1 + g2 + g3 else if k = 2 then max (max (max (max 0 g0) g1) g2) g3 else if k = 3 then g0 * g0 + g1 * g1 + g2 * g2 + g3 * g3 else if k = 4 then min g0 1 + min g1 1 + min g2 1 + min g3 1 else -1

end Go.Vs

namespace Go.Vs

/-- What Distance answers. -/
def dist (k : Int) (a b : List Int) : Int :=
  if isVec a = true ∧ isVec b = true then dk k (gap (a.getD 0 0) (b.getD 0 0)) (gap (a.getD 1 0) (b.getD 1 0)) (gap (a.getD 2 0) (b.getD 2 0)) (gap (a.getD 3 0) (b.getD 3 0)) else -1
theorem equalInts_ok {a b : List Int} (ha : a.length < 2000000) : M.laws_equalInts a b = some (decide (a = b)) := by
  unfold M.laws_equalInts
  by_cases hl : a.length = b.length
  · have e : ((a.length : Int) != (b.length : Int)) = false := by simp; omega
    simp only [e, cond_false]
    rw [loop_all (xs := a.zip b) (P := fun p => p.1 == p.2) (r := false)]
    · by_cases h : a = b
      · subst h
        have : (a.zip a).all (fun p => p.1 == p.2) = true := by
          rw [List.all_eq_true]; intro p hp
          obtain ⟨i, hi, rfl⟩ := List.mem_iff_getElem.1 hp
          simp
        rw [if_pos this]; simp [selim]
      · have : ¬ (a.zip b).all (fun p => p.1 == p.2) = true := by
          intro hh; apply h
          apply List.ext_getElem hl
          intro i h1 h2
          rw [List.all_eq_true] at hh
          have := hh (a[i], b[i]) (List.mem_iff_getElem.2 ⟨i, by simp; omega, by simp⟩)
          simpa using this
        rw [if_neg this]; simp [selim, h]
    · intro i hi
      have hi1 : i < a.length := by simp at hi; omega
      have hi2 : i < b.length := by simp at hi; omega
      have e1 : decide ((i : Int) < (a.length : Int)) = true := by simpa using hi1
      have e2 : w64 ((i : Int) + 1) = (i : Int) + 1 := w64_id (by omega) (by omega)
      simp only [e1, cond_true, gidx_nat hi1, gidx_nat hi2, Option.bind_some, e2, List.getElem_zip]
      by_cases hc : a[i] = b[i]
      · simp [hc]
      · have hb : (a[i] == b[i]) = false := by simpa using hc
        have hb' : (a[i] != b[i]) = true := by simpa using hc
        simp [hb, hb']
    · have : (a.zip b).length = a.length := by simp; omega
      rw [this]; simp
  · have e : ((a.length : Int) != (b.length : Int)) = true := by simp; omega
    have : a ≠ b := fun h => hl (by rw [h])
    simp [e, this]

/-- Gaps of two vectors. -/
structure Gaps (g0 g1 g2 g3 : Int) : Prop where
  n0 : 0 ≤ g0
  n1 : 0 ≤ g1
  n2 : 0 ≤ g2
  n3 : 0 ≤ g3
  m0 : g0 ≤ 200
  m1 : g1 ≤ 200
  m2 : g2 ≤ 200
  m3 : g3 ≤ 200
end Go.Vs

namespace Go.Vs

end Go.Vs

namespace Go.Vs

end Go.Vs

namespace Go.Vs

end Go.Vs

namespace Go.Vs

end Go.Vs

namespace Go.Vs

theorem eqIntS_ok {a b : List Int} (ha : a.length < 2000000) : M.laws_eqIntS a b = some (decide (a = b)) := equalInts_ok ha

end Go.Vs

namespace Go.Vs

end Go.Vs

namespace Go.Vs

abbrev Item := Int × (List Int) × Int
end Go.Vs

namespace Go.Vs

end Go.Vs

namespace Go.Vs

theorem w64_succ {i : Nat} (h : i < 4000000000000000000) : w64 ((i : Int) + 1) = ((i + 1 : Nat) : Int) := w64_id (by omega) (by omega)

section
variable {α S T R U : Type} {xs : List α}
theorem loop_fold (st : S → Int → T) (g : S → α → S) (Inv : Nat → S → Prop) {fin : S → R} {f : T → Option (T ⊕ R)} {s0 : S} (h0 : Inv 0 s0)
    (hs : ∀ s i (h : i < xs.length), Inv i s → f (st s (i : Int)) = some (.inl (st (g s xs[i]) ((i + 1 : Nat) : Int))) ∧ Inv (i + 1) (g s xs[i]))
    (he : ∀ s, Inv xs.length s → f (st s (xs.length : Int)) = some (.inr (fin s))) :
    loopM f (st s0 0) = some (fin (xs.foldl g s0)) ∧ Inv xs.length (xs.foldl g s0) := by
  have key : ∀ m k : Nat, ∀ s, k + m = xs.length → Inv k s → loopM f (st s (k : Int)) = some (fin ((xs.drop k).foldl g s)) ∧ Inv xs.length ((xs.drop k).foldl g s) := by
    intro m
    induction m with
    | zero =>
      intro k s hk hi
      have : k = xs.length := by omega
      subst this
      rw [loopM_eq, he s hi]; simpa [selim] using hi
    | succ m ih =>
      intro k s hk hi
      have hlt : k < xs.length := by omega
      obtain ⟨h1, h2⟩ := hs s k hlt hi
      rw [loopM_eq, h1, List.drop_eq_getElem_cons hlt]
      exact ih (k + 1) _ (by omega) h2
  have := key xs.length 0 s0 (by omega) h0
  simpa using this
/-- A loop in front of something. -/
theorem fold_bind (st : S → Int → T) (g : S → α → S) (Inv : Nat → S → Prop) (fin : S → R) {f : T → Option (T ⊕ R)} {s0 : S} {k : R → Option U} {r : Option U} (h0 : Inv 0 s0)
    (hs : ∀ s i (h : i < xs.length), Inv i s → f (st s (i : Int)) = some (.inl (st (g s xs[i]) ((i + 1 : Nat) : Int))) ∧ Inv (i + 1) (g s xs[i]))
    (he : ∀ s, Inv xs.length s → f (st s (xs.length : Int)) = some (.inr (fin s)))
    (hk : Inv xs.length (xs.foldl g s0) → k (fin (xs.foldl g s0)) = r) : (loopM f (st s0 0)).bind k = r := by
  obtain ⟨h1, h2⟩ := loop_fold st g Inv (fin := fin) h0 hs he
  rw [h1]; exact hk h2
/-- A loop that comes to r, by what holds at each round and what gets less. -/
theorem loop_to {f : T → Option (T ⊕ R)} (J : T → Prop) (μ : T → Nat) {r : R} (step : ∀ s, J s → (∃ s', f s = some (.inl s') ∧ J s' ∧ μ s' < μ s) ∨ f s = some (.inr r)) {s : T} (h : J s) : loopM f s = some r := by
  obtain ⟨r', h1, rfl⟩ := loopM_ind (f := f) J μ (fun x => x = r) (fun s hs => (step s hs).imp id (fun h => ⟨r, h, rfl⟩)) s h
  exact h1
/-- The first element that is so. -/
theorem loop_first (p : α → Bool) (r : Nat → R) {f : Int → Option (Int ⊕ (Unit ⊕ R))}
    (hs : ∀ i (h : i < xs.length), f (i : Int) = some (if p xs[i] = true then .inr (.inr (r i)) else .inl ((i + 1 : Nat) : Int))) (he : f (xs.length : Int) = some (.inr (.inl ()))) :
    loopM f 0 = some (match xs.findIdx? p with | some i => .inr (r i) | none => .inl ()) := by
  have key : ∀ m k : Nat, k + m = xs.length → loopM f (k : Int) = some (match (xs.drop k).findIdx? p with | some i => .inr (r (k + i)) | none => .inl ()) := by
    intro m
    induction m with
    | zero =>
      intro k hk
      have : k = xs.length := by omega
      subst this
      rw [loopM_eq, he]; simp [selim]
    | succ m ih =>
      intro k hk
      have hlt : k < xs.length := by omega
      rw [loopM_eq, hs k hlt, List.drop_eq_getElem_cons hlt, List.findIdx?_cons]
      by_cases hp : p xs[k] = true
      · simp [hp, selim]
      · simp only [hp, if_false, selim, Option.bind_some, Bool.false_eq_true]
        rw [ih (k + 1) (by omega)]
        cases h : List.findIdx? p (List.drop (k + 1) xs) with
        | none => rfl
        | some i => simp only [Option.map_some]; rw [show k + 1 + i = k + (i + 1) by omega]
  have := key xs.length 0 (by omega)
  simpa using this
end

/-! ## Valid stores as lists that ascend -/
/-- A list of items that is small enough to be looked at. -/
def SmallS (l : List Item) : Prop := l.length ≤ 1048576 ∧ ∀ x ∈ l, x.2.1.length ≤ 1048576
theorem SmallS.hb {l : List Item} (h : SmallS l) : ∀ x ∈ l, x.2.1.length < 2000000 := fun x hx => by have := h.2 x hx; omega
theorem SmallS.hL {l : List Item} (h : SmallS l) : l.length < 2000000 := by have := h.1; omega
/-! ## Putting -/
/-! ## Draws -/
/-- An item that may be drawn. -/
def NearI (x : Item) : Prop := (0 ≤ x.1 ∧ x.1 ≤ 100) ∧ Near x.2.1 ∧ -1 ≤ x.2.2 ∧ x.2.2 ≤ 16
end Go.Vs

namespace Go.Vs

def cmpI (x y : Int) : Int := if x < y then -1 else if y < x then 1 else 0
theorem compare_ok (x y : Int) : M.cmp_Compare_int x y = some (cmpI x y) := by
  unfold M.cmp_Compare_int M.cmp_isNaN_int cmpI
  simp only [bne_self_eq_false, Option.bind_some, cond_false]
  by_cases h1 : x < y
  · simp [h1]
  · by_cases h2 : y < x <;> simp [h1, h2]
theorem cmpI_neg {x y : Int} : cmpI x y < 0 ↔ x < y := by unfold cmpI; split <;> (try split) <;> omega
theorem cmpI_zero {x y : Int} : cmpI x y = 0 ↔ x = y := by unfold cmpI; split <;> (try split) <;> omega
theorem cmpI_pos {x y : Int} : 0 < cmpI x y ↔ y < x := by unfold cmpI; split <;> (try split) <;> omega

end Go.Vs

namespace Go.Vs

section
variable {α S T R U : Type} {xs : List α}
end

end Go.Vs

namespace Go.Vs

/-! ## InBox -/
end Go.Vs

namespace Go.Vs

end Go.Vs

namespace Go.Vs

/-! ## What is drawn -/
theorem NearI.le {x : Item} (h : NearI x) : x.2.1.length ≤ 1048576 := by have := h.2.1.1; omega
section
variable {code : List UInt8}
end
end Go.Vs

namespace Go.Vs

end Go.Vs

namespace Go.Vs

/-- k, k + 1, .. -/
def upFrom (k : Int) (n : Nat) : List Int := (List.range n).map fun i : Nat => k + (i : Int)
theorem upFrom_len {k : Int} {n : Nat} : (upFrom k n).length = n := by simp [upFrom]
theorem upFrom_get {k : Int} {n i : Nat} (h : i < (upFrom k n).length) : (upFrom k n)[i] = k + (i : Int) := by simp [upFrom]
theorem markIntS_ok {a : List Int} {k : Int} (ha : a.length < 2000000) (h0 : 0 ≤ k) (h1 : k ≤ 2000000000000000) : M.laws_markIntS a k = some (k + (a.length : Int), upFrom k a.length) := by
  unfold M.laws_markIntS
  have hloop := loop_run (R := List Int × Int) (f := fun (s2 : (List Int) × (Int) × (Int)) => (bif decide (s2.2.2 < (s2.1.length : Int)) then
  (gidx s2.1 s2.2.2).bind fun x6 =>
  some (.inl ((s2.1.set s2.2.2.toNat s2.2.1), w64 (s2.2.1 + 1), w64 (s2.2.2 + 1)))
 else
  some (.inr (s2.1, s2.2.1)))) (r := (upFrom k a.length, k + (a.length : Int))) a.length (fun i => (upFrom k i ++ a.drop i, k + (i : Int), (i : Int))) (by
    intro i hi
    have hl : (upFrom k i ++ a.drop i).length = a.length := by rw [List.length_append, upFrom_len, List.length_drop]; omega
    have e1 : decide ((i : Int) < ((upFrom k i ++ a.drop i).length : Int)) = true := decide_eq_true (by omega)
    have e2 : w64 ((i : Int) + 1) = ((i + 1 : Nat) : Int) := w64_id (by omega) (by omega)
    have e3 : w64 (k + (i : Int) + 1) = k + ((i + 1 : Nat) : Int) := by rw [w64_id (by omega) (by omega)]; omega
    have hl' : i < (upFrom k i ++ a.drop i).length := by omega
    simp only [e1, cond_true, gidx_nat hl', Option.bind_some, e2, e3, Int.toNat_natCast, Option.some.injEq, Sum.inl.injEq, Prod.mk.injEq, and_true]
    rw [List.set_append_right _ _ (by rw [upFrom_len]; omega), upFrom_len, Nat.sub_self, List.drop_eq_getElem_cons hi, List.set_cons_zero]
    simp [upFrom, List.range_succ]) (by
    have e1 : decide (((a.length : Nat) : Int) < ((upFrom k a.length ++ a.drop a.length).length : Int)) = false := decide_eq_false (by rw [List.length_append, upFrom_len]; simp)
    simp only [List.drop_length, List.append_nil] at e1 ⊢
    simp only [e1, cond_false])
  simp only [upFrom, List.range_zero, List.map_nil, List.nil_append, List.drop_zero, Int.cast_ofNat_Int, Int.add_zero] at hloop
  rw [hloop]; rfl
theorem heldIntS_ok {n : Nat} {k : Int} (ha : n < 2000000) (h0 : 0 ≤ k) (h1 : k ≤ 2000000000000000) : M.laws_heldIntS (upFrom k n) k = some (k + (n : Int)) := by
  unfold M.laws_heldIntS
  have hloop := loop_run (R := Int ⊕ Int) (f := fun (s2 : (Int) × (Int)) => (bif decide (s2.2 < ((upFrom k n).length : Int)) then
  (gidx (upFrom k n) s2.2).bind fun x7 =>
  (bif x7 != s2.1 then
  some (.inr (.inr (-1)))
 else
  some (.inl (w64 (s2.1 + 1), w64 (s2.2 + 1))))
 else
  some (.inr (.inl s2.1)))) (r := .inl (k + (n : Int))) n (fun i => (k + (i : Int), (i : Int))) (by
    intro i hi
    have hl : i < (upFrom k n).length := by rw [upFrom_len]; exact hi
    have e1 : decide ((i : Int) < ((upFrom k n).length : Int)) = true := decide_eq_true (by omega)
    have e2 : w64 ((i : Int) + 1) = ((i + 1 : Nat) : Int) := w64_id (by omega) (by omega)
    have e3 : w64 (k + (i : Int) + 1) = k + ((i + 1 : Nat) : Int) := by rw [w64_id (by omega) (by omega)]; omega
    simp only [e1, cond_true, gidx_nat hl, upFrom_get, Option.bind_some, e2, e3, bne_self_eq_false, cond_false]) (by
    have e1 : decide ((n : Int) < ((upFrom k n).length : Int)) = false := decide_eq_false (by rw [upFrom_len]; omega)
    simp only [e1, cond_false])
  simp only [Int.cast_ofNat_Int, Int.add_zero] at hloop
  rw [hloop]; rfl
end Go.Vs

namespace Go.Vs

theorem one0 : (0 : Int) ≤ 1 := by omega
theorem one1 : (1 : Int) ≤ 2000000000000000 := by omega

end Go.Vs

namespace Go.Vs

noncomputable def G.sift {α : Type} (cmp : α → α → Option Int) (data_0 : List α) (lo_1 : Int) (hi_2 : Int) (first_3 : Int) : Option ((List α)) :=
  Option.bind (loopM (fun (s2 : (List α) × (Int)) => (bif decide (hi_2 ≤ (w64 ((w64 (2 * s2.2)) + 1))) then
  some (.inr (.inl s2.1))
 else
  Option.bind ((bif decide ((w64 ((w64 ((w64 (2 * s2.2)) + 1)) + 1)) < hi_2) then
  (gidx s2.1 (w64 (first_3 + (w64 ((w64 (2 * s2.2)) + 1))))).bind fun x8 =>
  (gidx s2.1 (w64 ((w64 (first_3 + (w64 ((w64 (2 * s2.2)) + 1)))) + 1))).bind fun x15 =>
  (cmp x8 x15).bind fun r23 =>
  some (decide (r23 < 0))
 else
  some false)) fun o6 =>
  Option.bind ((bif o6 then
  some (w64 ((w64 ((w64 (2 * s2.2)) + 1)) + 1))
 else
  some (w64 ((w64 (2 * s2.2)) + 1)))) fun o29 =>
  (gidx s2.1 (w64 (first_3 + s2.2))).bind fun x32 =>
  (gidx s2.1 (w64 (first_3 + o29))).bind fun x39 =>
  (cmp x32 x39).bind fun r47 =>
  (bif !(decide (r47 < 0)) then
  some (.inr (.inr s2.1))
 else
  (gidx s2.1 (w64 (first_3 + o29))).bind fun x52 =>
  (gidx s2.1 (w64 (first_3 + s2.2))).bind fun x59 =>
  (gidx s2.1 (w64 (first_3 + s2.2))).bind fun x66 =>
  (gidx (s2.1.set (w64 (first_3 + s2.2)).toNat x52) (w64 (first_3 + o29))).bind fun x72 =>
  some (.inl (((s2.1.set (w64 (first_3 + s2.2)).toNat x52).set (w64 (first_3 + o29)).toNat x59), o29))))) (data_0, lo_1)) (selim (fun t78 => some t78)
   (fun t81 => some t81))

noncomputable def G.heap {α : Type} (cmp : α → α → Option Int) (data_0 : List α) (a_1 : Int) (b_2 : Int) : Option ((List α)) :=
  Option.bind (loopM (fun (s2 : (List α) × (Int)) => (bif decide (0 ≤ s2.2) then
  (G.sift cmp s2.1 s2.2 (w64 (b_2 - a_1)) a_1).bind fun r6 =>
  some (.inl (r6, w64 (s2.2 - 1)))
 else
  some (.inr s2.1))) (data_0, w64 ((w64 ((w64 (b_2 - a_1)) - 1)).tdiv 2))) fun o1 =>
  Option.bind (loopM (fun (s14 : (List α) × (Int)) => (bif decide (0 ≤ s14.2) then
  (gidx s14.1 (w64 (a_1 + s14.2))).bind fun x18 =>
  (gidx s14.1 a_1).bind fun x25 =>
  (gidx s14.1 a_1).bind fun x32 =>
  (gidx (s14.1.set a_1.toNat x18) (w64 (a_1 + s14.2))).bind fun x38 =>
  (G.sift cmp ((s14.1.set a_1.toNat x18).set (w64 (a_1 + s14.2)).toNat x25) 0 s14.2 a_1).bind fun r44 =>
  some (.inl (r44, w64 (s14.2 - 1)))
 else
  some (.inr s14.1))) (o1, w64 ((w64 (b_2 - a_1)) - 1))) fun o13 =>
  some o13

noncomputable def G.o2 {α : Type} (cmp : α → α → Option Int) (data_0 : List α) (a_1 : Int) (b_2 : Int) (swaps_3 : Int) : Option (Int × Int × Int) :=
  (gidx data_0 b_2).bind fun x1 =>
  (gidx data_0 a_1).bind fun x8 =>
  (cmp x1 x8).bind fun r16 =>
  (bif decide (r16 < 0) then
  some (b_2, a_1, w64 (swaps_3 + 1))
 else
  some (a_1, b_2, swaps_3))

section
noncomputable abbrev cmpHits : Int × Int → Int × Int → Option Int := fun x y => M.impl_compareHits (x.1, x.2) (y.1, y.2)
end
end Go.Vs

namespace Go.Vs

section
variable {α : Type} [Inhabited α]
def el (d : List α) (i : Nat) : α := d.getD i default
theorem el_lt {d : List α} {i : Nat} (h : i < d.length) : el d i = d[i] := by simp [el, List.getD, h]
/-- d' is d with the places a ≤ i < b permuted among themselves. -/
structure PermR (a b : Nat) (d d' : List α) : Prop where
  len : d'.length = d.length
  out : ∀ i, i < a ∨ b ≤ i → el d' i = el d i
  perm : d'.Perm d
theorem PermR.refl {a b : Nat} (d : List α) : PermR a b d d := ⟨rfl, fun _ _ => rfl, List.Perm.refl _⟩
theorem PermR.trans {a b : Nat} {d d' d'' : List α} (h : PermR a b d d') (k : PermR a b d' d'') : PermR a b d d'' :=
  ⟨k.len.trans h.len, fun i hi => (k.out i hi).trans (h.out i hi), k.perm.trans h.perm⟩
theorem PermR.mono {a b a' b' : Nat} {d d' : List α} (h : PermR a b d d') (ha : a' ≤ a) (hb : b ≤ b') : PermR a' b' d d' :=
  ⟨h.len, fun i hi => h.out i (by omega), h.perm⟩
/-- What is in the part is in the part. -/
theorem PermR.mem {a b : Nat} {d d' : List α} (h : PermR a b d d') (hab : a ≤ b) (hb : b ≤ d.length) {i : Nat} (h1 : a ≤ i) (h2 : i < b) : ∃ j, a ≤ j ∧ j < b ∧ el d' i = el d j := by
  have cut : ∀ (e : List α), e.length = d.length → e = e.take a ++ ((e.take b).drop a ++ e.drop b) := by
    intro e he
    rw [← List.append_assoc]
    have : e.take a ++ (e.take b).drop a = e.take b := by
      have := List.take_append_drop a (e.take b)
      rwa [List.take_take, Nat.min_eq_left hab] at this
    rw [this, List.take_append_drop]
  have hl := h.len
  have e1 : d'.take a = d.take a := by
    apply List.ext_getElem
    · simp [hl]
    · intro k h3 h4
      simp only [List.length_take] at h3 h4
      rw [List.getElem_take, List.getElem_take, ← el_lt, ← el_lt]
      exact h.out k (by omega)
  have e2 : d'.drop b = d.drop b := by
    apply List.ext_getElem
    · simp [hl]
    · intro k h3 h4
      simp only [List.length_drop] at h3 h4
      rw [List.getElem_drop, List.getElem_drop, ← el_lt, ← el_lt]
      exact h.out (b + k) (by omega)
  have hp := h.perm
  rw [cut d' hl, cut d rfl, e1, e2] at hp
  have hp2 := (List.perm_append_right_iff _).1 ((List.perm_append_left_iff _).1 hp)
  have hm : el d' i ∈ (d'.take b).drop a := by
    rw [el_lt (by omega)]
    refine List.mem_iff_getElem.2 ⟨i - a, by simp; omega, ?_⟩
    simp only [List.getElem_drop, List.getElem_take]
    congr 1; omega
  have hm2 := hp2.mem_iff.1 hm
  obtain ⟨k, hk, e⟩ := List.mem_iff_getElem.1 hm2
  simp only [List.length_drop, List.length_take] at hk
  refine ⟨a + k, by omega, by omega, ?_⟩
  rw [← e, el_lt (by omega)]
  simp only [List.getElem_drop, List.getElem_take]
end

/-- What is asked of the order of these elements. -/
structure Lin {α : Type} (lt : α → α → Bool) (p : α → Prop) : Prop where
  irrefl : ∀ x, p x → lt x x = false
  trans : ∀ x y z, p x → p y → p z → lt x y = true → lt y z = true → lt x z = true
  total : ∀ x y, p x → p y → x ≠ y → lt x y = true ∨ lt y x = true
theorem Lin.asymm {α : Type} {lt : α → α → Bool} {p : α → Prop} (h : Lin lt p) {x y : α} (hx : p x) (hy : p y) (hl : lt x y = true) : lt y x = false := by
  cases e : lt y x with
  | false => rfl
  | true => have := h.trans x y x hx hy hx hl e; rw [h.irrefl x hx] at this; cases this
/-- Not less than: transitive. -/
theorem Lin.ntrans {α : Type} {lt : α → α → Bool} {p : α → Prop} (h : Lin lt p) {x y z : α} (hx : p x) (hy : p y) (hz : p z) (h1 : lt x y = false) (h2 : lt y z = false) : lt x z = false := by
  cases e : lt x z with
  | false => rfl
  | true =>
    rcases Classical.em (x = y) with rfl | hne
    · rw [h2] at e; cases e
    · rcases h.total x y hx hy hne with h' | h'
      · rw [h1] at h'; cases h'
      · have := h.trans y x z hy hx hz h' e
        rw [h2] at this; cases this
def CmpOk {α : Type} (cmp : α → α → Option Int) (lt : α → α → Bool) (p : α → Prop) : Prop := ∀ x y, p x → p y → ∃ r, cmp x y = some r ∧ decide (r < 0) = lt x y

def AllP {α : Type} [Inhabited α] (p : α → Prop) (d : List α) : Prop := ∀ i, i < d.length → p (el d i)
theorem AllP.of {α : Type} [Inhabited α] {p : α → Prop} {d : List α} (h : ∀ x ∈ d, p x) : AllP p d := fun i hi => h _ (by rw [el_lt hi]; exact List.getElem_mem _)
theorem AllP.perm {α : Type} [Inhabited α] {p : α → Prop} {d d' : List α} (h : AllP p d) (hp : d'.Perm d) : AllP p d' := by
  refine AllP.of fun x hx => ?_
  obtain ⟨i, hi, e⟩ := List.mem_iff_getElem.1 (hp.mem_iff.1 hx)
  rw [← e, ← el_lt hi]; exact h i hi
/-- Ascending on a ≤ i < b. -/
def Asc {α : Type} [Inhabited α] (lt : α → α → Bool) (a b : Nat) (d : List α) : Prop := ∀ i j, a ≤ i → i < j → j < b → lt (el d j) (el d i) = false
end Go.Vs

namespace Go.Vs

section
variable {α : Type} {cmp : α → α → Option Int} {lt : α → α → Bool} {p : α → Prop}
end

section
variable {α : Type} [Inhabited α] {cmp : α → α → Option Int} {lt : α → α → Bool} {p : α → Prop}
end
end Go.Vs

namespace Go.Vs

section
variable {α : Type} [Inhabited α] {cmp : α → α → Option Int} {lt : α → α → Bool} {p : α → Prop}
end
end Go.Vs

namespace Go.Vs

section
variable {α : Type} [Inhabited α] {cmp : α → α → Option Int} {lt : α → α → Bool} {p : α → Prop}

/-- What the partition gives. -/
structure Parted (lt : α → α → Bool) (a b : Nat) (d : List α) (m : Nat) (d' : List α) : Prop where
  ge : a ≤ m
  le : m < b
  perm : PermR a b d d'
  low : ∀ i, a ≤ i → i < m → lt (el d' i) (el d' m) = true
  high : ∀ i, m < i → i < b → lt (el d' i) (el d' m) = false
end
end Go.Vs

namespace Go.Vs

section
variable {α : Type} [Inhabited α] {cmp : α → α → Option Int} {lt : α → α → Bool} {p : α → Prop}

/-- Ascending, but for pairs that are both in the part. -/
def NIn (lt : α → α → Bool) (a0 b0 a b : Nat) (d : List α) : Prop := ∀ i j, a0 ≤ i → i < j → j < b0 → ¬ (a ≤ i ∧ j < b) → lt (el d j) (el d i) = false
theorem NIn.perm {a0 b0 a b : Nat} {d d' : List α} (h : NIn lt a0 b0 a b d) (hP : PermR a b d d') (ha : a0 ≤ a) (hab : a ≤ b) (hb : b ≤ b0) (hb0 : b0 ≤ d.length) : NIn lt a0 b0 a b d' := by
  intro i j h1 h2 h3 h4
  have cl : ∀ k, ∃ k', el d' k = el d k' ∧ ((a ≤ k ∧ k < b) → a ≤ k' ∧ k' < b) ∧ (¬ (a ≤ k ∧ k < b) → k' = k) := by
    intro k
    by_cases hk : a ≤ k ∧ k < b
    · obtain ⟨k', g1, g2, g3⟩ := hP.mem hab (by omega) hk.1 hk.2
      exact ⟨k', g3, fun _ => ⟨g1, g2⟩, fun h => absurd hk h⟩
    · exact ⟨k, hP.out k (by omega), fun h => absurd h hk, fun _ => rfl⟩
  obtain ⟨i', e1, q1, q2⟩ := cl i
  obtain ⟨j', e2, q3, q4⟩ := cl j
  rw [e1, e2]
  by_cases hi : a ≤ i ∧ i < b
  · have := q1 hi
    by_cases hj : a ≤ j ∧ j < b
    · exact absurd ⟨hi.1, hj.2⟩ h4
    · have := q4 hj; subst this; exact h i' j' (by omega) (by omega) h3 (by omega)
  · have := q2 hi; subst this
    by_cases hj : a ≤ j ∧ j < b
    · have := q3 hj; exact h i' j' h1 (by omega) (by omega) (by omega)
    · have := q4 hj; subst this; exact h i' j' h1 h2 h3 (by omega)
theorem NIn.done {a0 b0 a b : Nat} {d : List α} (h : NIn lt a0 b0 a b d) (hA : Asc lt a b d) : Asc lt a0 b0 d := by
  intro i j h1 h2 h3
  by_cases hc : a ≤ i ∧ j < b
  · exact hA i j hc.1 h2 hc.2
  · exact h i j h1 h2 h3 hc
end
end Go.Vs

namespace Go.Vs

abbrev Hit := Int × Int
/-- Which one of two hits is nearer. -/
def ltH (x y : Hit) : Bool := decide (x.2 < y.2 ∨ x.2 = y.2 ∧ x.1 < y.1)
theorem ltH_iff {x y : Hit} : ltH x y = true ↔ x.2 < y.2 ∨ x.2 = y.2 ∧ x.1 < y.1 := by simp [ltH]
theorem ltH_false {x y : Hit} : ltH x y = false ↔ ¬ (x.2 < y.2 ∨ x.2 = y.2 ∧ x.1 < y.1) := by simp [ltH]
theorem linH : Lin ltH (fun _ => True) where
  irrefl x _ := by rw [ltH_false]; omega
  trans x y z _ _ _ h1 h2 := by rw [ltH_iff] at *; omega
  total x y _ _ h := by
    rw [ltH_iff, ltH_iff]
    by_cases e : x.2 = y.2
    · have : x.1 ≠ y.1 := fun e2 => h (Prod.ext e2 e)
      omega
    · omega
theorem cmpOr_ok (a b : Int) : M.cmp_Or_int [a, b] = some (if a = 0 then b else a) := by
  unfold M.cmp_Or_int
  by_cases ha : a = 0
  · subst ha
    by_cases hb : b = 0
    · subst hb
      rw [loopM_eq]
      have e0 : decide ((0 : Int) < (([0, 0] : List Int).length : Int)) = true := rfl
      have g0 : gidx ([0, 0] : List Int) 0 = some 0 := rfl
      have w0 : w64 ((0 : Int) + 1) = 1 := rfl
      have e1 : decide ((1 : Int) < (([0, 0] : List Int).length : Int)) = true := rfl
      have g1 : gidx ([0, 0] : List Int) 1 = some 0 := rfl
      have w1 : w64 ((1 : Int) + 1) = 2 := rfl
      have e2 : decide ((2 : Int) < (([0, 0] : List Int).length : Int)) = false := rfl
      simp only [e0, cond_true, g0, Option.bind_some, bne_self_eq_false, cond_false, w0, selim]
      rw [loopM_eq]
      simp only [e1, cond_true, g1, Option.bind_some, bne_self_eq_false, cond_false, w1, selim]
      rw [loopM_eq]
      simp only [e2, cond_false, Option.bind_some, selim, if_true]
    · rw [loopM_eq]
      have e0 : decide ((0 : Int) < (([0, b] : List Int).length : Int)) = true := rfl
      have g0 : gidx ([0, b] : List Int) 0 = some 0 := rfl
      have w0 : w64 ((0 : Int) + 1) = 1 := rfl
      have e1 : decide ((1 : Int) < (([0, b] : List Int).length : Int)) = true := rfl
      have g1 : gidx ([0, b] : List Int) 1 = some b := rfl
      simp only [e0, cond_true, g0, Option.bind_some, bne_self_eq_false, cond_false, w0, selim]
      rw [loopM_eq]
      have hb' : (b != 0) = true := by simpa using hb
      simp only [e1, cond_true, g1, Option.bind_some, hb', selim, if_true]
  · rw [loopM_eq]
    have e0 : decide ((0 : Int) < (([a, b] : List Int).length : Int)) = true := rfl
    have g0 : gidx ([a, b] : List Int) 0 = some a := rfl
    have ha' : (a != 0) = true := by simpa using ha
    simp only [e0, cond_true, g0, Option.bind_some, ha', selim, if_neg ha]
theorem compareHits_ok (x y : Hit) : ∃ r, M.impl_compareHits (x.1, x.2) (y.1, y.2) = some r ∧ decide (r < 0) = ltH x y ∧ decide (0 < r) = ltH y x := by
  unfold M.impl_compareHits
  simp only [compare_ok, Option.bind_some, cmpOr_ok]
  refine ⟨_, rfl, ?_, ?_⟩
  · unfold ltH
    apply decide_eq_decide.2
    by_cases h : cmpI x.2 y.2 = 0
    · rw [if_pos h, cmpI_neg]; rw [cmpI_zero] at h; omega
    · rw [if_neg h, cmpI_neg]; rw [cmpI_zero] at h; omega
  · unfold ltH
    apply decide_eq_decide.2
    by_cases h : cmpI x.2 y.2 = 0
    · rw [if_pos h, cmpI_pos]; rw [cmpI_zero] at h; omega
    · rw [if_neg h, cmpI_pos]; rw [cmpI_zero] at h; omega
theorem cmpHits_ok : CmpOk cmpHits ltH (fun _ => True) := fun x y _ _ => by
  obtain ⟨r, h1, h2, _⟩ := compareHits_ok x y
  exact ⟨r, h1, h2⟩
end Go.Vs

namespace Go.Vs

/-- Into its place. -/
def insH (x : Hit) : List Hit → List Hit
  | [] => [x]
  | y :: r => if ltH x y then x :: y :: r else y :: insH x r
def AscH (l : List Hit) : Prop := l.Pairwise fun x y => ltH y x = false
theorem insH_perm (x : Hit) (l : List Hit) : (insH x l).Perm (x :: l) := by
  induction l with
  | nil => exact List.Perm.refl _
  | cons y r ih =>
    unfold insH
    split
    · exact List.Perm.refl _
    · exact (List.Perm.cons y ih).trans (List.Perm.swap x y r)
theorem insH_asc {x : Hit} {l : List Hit} (h : AscH l) : AscH (insH x l) := by
  induction l with
  | nil => exact List.pairwise_singleton _ _
  | cons y r ih =>
    obtain ⟨h1, h2⟩ := List.pairwise_cons.1 h
    unfold insH
    split
    · rename_i hlt
      refine List.pairwise_cons.2 ⟨fun z hz => ?_, h⟩
      rcases List.mem_cons.1 hz with rfl | hz
      · exact linH.asymm trivial trivial hlt
      · exact linH.ntrans trivial trivial trivial (h1 z hz) (linH.asymm trivial trivial hlt)
    · rename_i hlt
      refine List.pairwise_cons.2 ⟨fun z hz => ?_, ih h2⟩
      rcases List.mem_cons.1 ((insH_perm x r).mem_iff.1 hz) with rfl | hz
      · simpa using hlt
      · exact h1 z hz
theorem ltH_antisymm {x y : Hit} (h1 : ltH x y = false) (h2 : ltH y x = false) : x = y := by
  rcases Classical.em (x = y) with h | h
  · exact h
  · rcases linH.total x y trivial trivial h with h' | h'
    · rw [h1] at h'; cases h'
    · rw [h2] at h'; cases h'
theorem asc_uniq {l m : List Hit} (hl : AscH l) (hm : AscH m) (h : l.Perm m) : l = m :=
  List.Perm.eq_of_pairwise (le := fun x y => ltH y x = false) (fun _ _ _ _ h1 h2 => ltH_antisymm h2 h1) hl hm h
/-- All in order. -/
def isort (l : List Hit) : List Hit := l.foldl (fun S x => insH x S) []
theorem isort_spec (l : List Hit) : AscH (isort l) ∧ (isort l).Perm l := by
  have key : ∀ (l S : List Hit), AscH S → AscH (l.foldl (fun S x => insH x S) S) ∧ (l.foldl (fun S x => insH x S) S).Perm (S ++ l) := by
    intro l
    induction l with
    | nil => intro S h; exact ⟨h, by simp⟩
    | cons x r ih =>
      intro S h
      obtain ⟨h1, h2⟩ := ih (insH x S) (insH_asc h)
      refine ⟨h1, h2.trans ?_⟩
      have := List.Perm.append_right r (insH_perm x S)
      exact this.trans (List.perm_middle.symm)
  exact key l [] List.Pairwise.nil
theorem isort_len (l : List Hit) : (isort l).length = l.length := (isort_spec l).2.length_eq
theorem isort_uniq {l m : List Hit} (hm : AscH m) (h : m.Perm l) : isort l = m := asc_uniq (isort_spec l).1 hm ((isort_spec l).2.trans h.symm)
def topH (k : Nat) (l : List Hit) : List Hit := (isort l).take k
theorem topH_sub (k : Nat) (l : List Hit) : ∀ x ∈ topH k l, x ∈ l := fun x hx => (isort_spec l).2.mem_iff.1 (List.mem_of_mem_take hx)

/-! ## What the heap keeps -/
/-! ## The searches -/
theorem nearer_ok (x y : Hit) : M.spec_nearer (x.1, x.2) (y.1, y.2) = some (ltH x y) := by
  unfold M.spec_nearer ltH
  by_cases h1 : x.2 < y.2
  · simp [h1]
  · by_cases h2 : x.2 = y.2
    · simp [h2]
    · have h3 : (x.2 == y.2) = false := beq_eq_false_iff_ne.2 h2
      simp [h1, h2, h3]
/-- The hits of a store. -/
def hitsOf (l : List Item) (kind : Int) (at_ : List Int) : List Hit := l.map fun x => (x.1, dist kind x.2.1 at_)
theorem inRange_ok (n a b : Int) : M.spec_inRange n a b = some (decide (a ≤ n ∧ n ≤ b)) := by
  unfold M.spec_inRange
  by_cases h : a ≤ n <;> simp [h]
end Go.Vs

namespace Go.Vs

theorem hitsOf_mem {l : List Item} {kind : Int} {at_ : List Int} {h : Hit} : h ∈ hitsOf l kind at_ ↔ ∃ x ∈ l, h = (x.1, dist kind x.2.1 at_) := by
  unfold hitsOf
  rw [List.mem_map]
  constructor
  · rintro ⟨x, hx, rfl⟩; exact ⟨x, hx, rfl⟩
  · rintro ⟨x, hx, rfl⟩; exact ⟨x, hx, rfl⟩
end Go.Vs

namespace Go.Vs

end Go.Vs

namespace Go.Vs

end Go.Vs

namespace Go.Vs

/-- (k, k + 1), (k + 2, k + 3), .. -/
def upHits (k : Int) (n : Nat) : List (Int × Int) := (List.range n).map fun i : Nat => (k + 2 * (i : Int), k + 2 * (i : Int) + 1)
theorem upHits_len {k : Int} {n : Nat} : (upHits k n).length = n := by simp [upHits]
theorem gidx_setn {α : Type} {xs : List α} {i : Nat} {e : α} (h : i < xs.length) : gidx (xs.set i e) (i : Int) = some e := by
  unfold gidx
  rw [if_pos (by omega)]
  simp [h]
theorem markHitS_ok {a : List (Int × Int)} {k : Int} (ha : a.length < 2000000) (h0 : 0 ≤ k) (h1 : k ≤ 2000000000000000) : M.laws_markHitS a k = some (k + 2 * (a.length : Int), upHits k a.length) := by
  unfold M.laws_markHitS
  have hloop := loop_run (R := List (Int × Int) × Int) (f := fun (s2 : (List (Int × Int)) × (Int) × (Int)) => (bif decide (s2.2.2 < (s2.1.length : Int)) then
  (gidx s2.1 s2.2.2).bind fun x6 =>
  (gidx (s2.1.set s2.2.2.toNat (s2.2.1, x6.2)) s2.2.2).bind fun x12 =>
  some (.inl (((s2.1.set s2.2.2.toNat (s2.2.1, x6.2)).set s2.2.2.toNat (x12.1, w64 (s2.2.1 + 1))), w64 ((w64 (s2.2.1 + 1)) + 1), w64 (s2.2.2 + 1)))
 else
  some (.inr (s2.1, s2.2.1)))) (r := (upHits k a.length, k + 2 * (a.length : Int))) a.length (fun i => (upHits k i ++ a.drop i, k + 2 * (i : Int), (i : Int))) (by
    intro i hi
    have hl : (upHits k i ++ a.drop i).length = a.length := by rw [List.length_append, upHits_len, List.length_drop]; omega
    have e1 : decide ((i : Int) < ((upHits k i ++ a.drop i).length : Int)) = true := decide_eq_true (by omega)
    have e2 : w64 ((i : Int) + 1) = ((i + 1 : Nat) : Int) := w64_id (by omega) (by omega)
    have e3 : w64 (k + 2 * (i : Int) + 1) = k + 2 * (i : Int) + 1 := w64_id (by omega) (by omega)
    have e4 : w64 (k + 2 * (i : Int) + 1 + 1) = k + 2 * ((i + 1 : Nat) : Int) := by rw [w64_id (by omega) (by omega)]; omega
    have hl' : i < (upHits k i ++ a.drop i).length := by omega
    simp only [e1, cond_true, gidx_nat hl', Option.bind_some, e2, e3, e4, Int.toNat_natCast, gidx_setn hl', List.set_set, Option.some.injEq, Sum.inl.injEq, Prod.mk.injEq, and_true]
    rw [List.set_append_right _ _ (by rw [upHits_len]; omega), upHits_len, Nat.sub_self, List.drop_eq_getElem_cons hi, List.set_cons_zero]
    simp [upHits, List.range_succ]) (by
    have e1 : decide (((a.length : Nat) : Int) < ((upHits k a.length ++ a.drop a.length).length : Int)) = false := decide_eq_false (by rw [List.length_append, upHits_len]; simp)
    simp only [List.drop_length, List.append_nil] at e1 ⊢
    simp only [e1, cond_false])
  simp only [upHits, List.range_zero, List.map_nil, List.nil_append, List.drop_zero, Int.cast_ofNat_Int, Int.mul_zero, Int.add_zero] at hloop
  rw [hloop]; rfl
theorem eqHitS_self {a : List (Int × Int)} (h : a.length < 2000000) : M.laws_eqHitS a a = some true := by
  unfold M.laws_eqHitS
  simp only [bne_self_eq_false, cond_false]
  rw [loop_all (xs := a) (P := fun _ => true) (r := false)]
  · simp [selim]
  · intro i hi
    have e1 : decide ((i : Int) < (a.length : Int)) = true := by simpa using hi
    have e2 : w64 ((i : Int) + 1) = (i : Int) + 1 := w64_id (by omega) (by omega)
    simp only [e1, cond_true, gidx_nat hi, Option.bind_some, M.laws_eqHit, bne_self_eq_false, Bool.not_true, cond_false, e2, if_true]
  · simp
end Go.Vs

namespace Go.Vs

end Go.Vs

namespace Go.Vs

end Go.Vs

namespace Go.Vs

/-- Items that may be put into a tree. -/
structure OkL (l : List Item) : Prop where
  len : l.length ≤ 16
  vec : ∀ x ∈ l, isVec x.2.1 = true
  keys : (l.map (·.1)).Nodup
theorem OkL.inj {l : List Item} (h : OkL l) : ∀ x y, x ∈ l → y ∈ l → x.1 = y.1 → x = y := fun x y hx hy e => by
  obtain ⟨i, hi, rfl⟩ := List.mem_iff_getElem.1 hx
  obtain ⟨j, hj, rfl⟩ := List.mem_iff_getElem.1 hy
  have hpw := List.pairwise_iff_getElem.1 (List.pairwise_map.1 h.keys)
  rcases Nat.lt_trichotomy i j with h | h | h
  · exact absurd e (hpw i j hi hj h)
  · subst h; rfl
  · exact absurd e.symm (hpw j i hj hi h)
theorem OkL.sub {l m : List Item} (h : OkL l) (hs : List.Sublist m l) : OkL m :=
  ⟨Nat.le_trans hs.length_le h.len, fun x hx => h.vec x (hs.subset hx), List.Nodup.sublist (hs.map _) h.keys⟩
theorem OkL.perm {l m : List Item} (h : OkL l) (hp : m.Perm l) : OkL m :=
  ⟨by rw [hp.length_eq]; exact h.len, fun x hx => h.vec x (hp.mem_iff.1 hx), (hp.map (·.1)).nodup_iff.2 h.keys⟩

end Go.Vs

namespace Go.Vs

abbrev Nod := Int × Int × Int × Int
def nodesT : Tr Item → Nat → List Nod
  | .nil, _ => []
  | .node x n l r, a => (x.1, n, (bif l.isNil then -1 else ((a + 1 : Nat) : Int)), (bif r.isNil then -1 else ((a + 1 + (nodesT l (a + 1)).length : Nat) : Int))) :: (nodesT l (a + 1) ++ nodesT r (a + 1 + (nodesT l (a + 1)).length))
def Tr.size : Tr Item → Nat
  | .nil => 0
  | .node _ _ l r => l.size + r.size + 1
theorem nodesT_len : ∀ (t : Tr Item) (a : Nat), (nodesT t a).length = t.size
  | .nil, _ => rfl
  | .node x n l r, a => by simp only [nodesT, List.length_cons, List.length_append, nodesT_len l, nodesT_len r, Tr.size]
end Go.Vs

namespace Go.Vs

end Go.Vs

namespace Go.Vs

end Go.Vs

namespace Go.Vs

end Go.Vs

namespace Go.Vs

def itemsT : Tr Item → List Item
  | .nil => []
  | .node x _ l r => x :: (itemsT l ++ itemsT r)
/-- A tree's nodes stand in a list, from a place on. -/
def Sub (L : List Nod) (t : Tr Item) (a : Nat) : Prop := ∃ pre post, L = pre ++ nodesT t a ++ post ∧ pre.length = a
theorem Sub.left {L : List Nod} {x : Item} {q : Int} {l r : Tr Item} {a : Nat} (h : Sub L (.node x q l r) a) : Sub L l (a + 1) := by
  obtain ⟨pre, post, rfl, rfl⟩ := h
  exact ⟨pre ++ (nodesT (.node x q l r) pre.length).take 1, nodesT r (pre.length + 1 + (nodesT l (pre.length + 1)).length) ++ post, by simp [nodesT], by simp [nodesT]⟩
theorem Sub.right {L : List Nod} {x : Item} {q : Int} {l r : Tr Item} {a : Nat} (h : Sub L (.node x q l r) a) : Sub L r (a + 1 + l.size) := by
  obtain ⟨pre, post, rfl, rfl⟩ := h
  exact ⟨pre ++ (nodesT (.node x q l r) pre.length).take 1 ++ nodesT l (pre.length + 1), post, by simp [nodesT, nodesT_len], by simp [nodesT, nodesT_len]; omega⟩
theorem Sub.get {L : List Nod} {x : Item} {q : Int} {l r : Tr Item} {a : Nat} (h : Sub L (.node x q l r) a) : ∃ hl : a < L.length, L[a] = (x.1, q, (bif l.isNil then -1 else ((a + 1 : Nat) : Int)), (bif r.isNil then -1 else ((a + 1 + l.size : Nat) : Int))) := by
  obtain ⟨pre, post, rfl, rfl⟩ := h
  exact ⟨by simp [nodesT], by simp [nodesT, nodesT_len]⟩
theorem Sub.gidx {L : List Nod} {x : Item} {q : Int} {l r : Tr Item} {a : Nat} (h : Sub L (.node x q l r) a) : Go.Vs.gidx L (a : Int) = some (x.1, q, (bif l.isNil then -1 else ((a + 1 : Nat) : Int)), (bif r.isNil then -1 else ((a + 1 + l.size : Nat) : Int))) := by
  obtain ⟨hl, e⟩ := h.get
  rw [gidx_nat hl, e]
theorem sub_self (t : Tr Item) : Sub (nodesT t 0) t 0 := ⟨[], [], by simp, rfl⟩

end Go.Vs

namespace Go.Vs

def hitV (kd : Int) (v : List Int) (x : Item) : Hit := (x.1, dist kd x.2.1 v)
def hitsV (kd : Int) (v : List Int) (l : List Item) : List Hit := l.map (hitV kd v)
/-- How far a search looks. -/
def reachH (k : Nat) (V : List Hit) : Int := if (topH k V).length < k then 1000000 else ((topH k V).getD (k - 1) (0, 0)).2
/-! ## Lists with the same nearest ones -/
def SameT (k : Nat) (U V : List Hit) : Prop := topH k U = topH k V
theorem SameT.refl (k : Nat) (U : List Hit) : SameT k U U := rfl
theorem SameT.trans {k : Nat} {U V W : List Hit} (h : SameT k U V) (g : SameT k V W) : SameT k U W := Eq.trans h g
theorem SameT.symm {k : Nat} {U V : List Hit} (h : SameT k U V) : SameT k V U := Eq.symm h
theorem SameT.perm {k : Nat} {U V : List Hit} (h : U.Perm V) : SameT k U V := by
  show topH k U = topH k V
  unfold topH
  rw [isort_uniq (isort_spec V).1 ((isort_spec V).2.trans h.symm)]
theorem SameT.reach {k : Nat} {U V : List Hit} (h : SameT k U V) : reachH k U = reachH k V := by
  unfold reachH
  rw [h]
/-! ## Trees find the nearest -/
/-! ## At how many nodes they look -/
noncomputable def vis (kd : Int) (v : List Int) (k : Nat) : Tr Item → List Hit → Nat
  | .nil, _ => 0
  | .node x q l r, P =>
    if dist kd x.2.1 v ≤ q then
      vis kd v k l (P ++ [hitV kd v x]) + 1 + (if q - dist kd x.2.1 v ≤ reachH k (P ++ [hitV kd v x] ++ hitsV kd v (itemsT l)) then vis kd v k r (P ++ [hitV kd v x] ++ hitsV kd v (itemsT l)) else 0)
    else
      vis kd v k r (P ++ [hitV kd v x]) + 1 + (if dist kd x.2.1 v - q ≤ reachH k (P ++ [hitV kd v x] ++ hitsV kd v (itemsT r)) then vis kd v k l (P ++ [hitV kd v x] ++ hitsV kd v (itemsT r)) else 0)
end Go.Vs

namespace Go.Vs

/-! ## The program's search -/
/-! ## What is answered -/
end Go.Vs

namespace Go.Vs

/-! ## Exact laws -/
end Go.Vs

namespace Go.Vs

end Go.Vs

namespace Go.Vs

/-! ## The first of the least -/
def SmallC (cs : List (List Int)) : Prop := cs.length < 2000000 ∧ ∀ c ∈ cs, c.length < 2000000
/-! ## Drawn centres -/
/-! ## Laws -/
theorem SmallC.sub {cs ds : List (List Int)} (h : SmallC cs) (hs : ds.Sublist cs) : SmallC ds := ⟨by have := hs.length_le; have := h.1; omega, fun c hc => h.2 c (hs.subset hc)⟩
/-! ## Items and their centres -/
/-! ## Spreads -/
end Go.Vs

namespace Go.Vs

section
variable {cmp : Int → Int → Option Int} {D : Nat → Int} {n : Nat}
end

end Go.Vs

namespace Go.Vs

end Go.Vs

namespace Go.Vs

/-! ## Settling -/
end Go.Vs

namespace Go.Vs

/-! ## What searches cost -/
/-! ## Exact laws -/
end Go.Vs

namespace Go.Vs

/-! ## All items are in a list -/
end Go.Vs

namespace Go.Vs

end Go.Vs

namespace Go.Vs

end Go.Vs

namespace Go.Vs

/-- The sum of squares between two halves. -/
def hd2 (u v : List Int) : Int := gap (u.getD 0 0) (v.getD 0 0) * gap (u.getD 0 0) (v.getD 0 0) + gap (u.getD 1 0) (v.getD 1 0) * gap (u.getD 1 0) (v.getD 1 0)
def hD (l : List (List Int)) (v : List Int) (j : Nat) : Int := hd2 (l.getD j []) v
end Go.Vs

namespace Go.Vs

end Go.Vs

namespace Go.Vs

end Go.Vs

namespace Go.Vs

end Go.Vs

namespace Go.Vs

end Go.Vs

namespace Go.Vs

/-! ## Planes -/
end Go.Vs

namespace Go.Vs

/-! ## Tables -/
/-! ## Vectors of codes -/
/-! ## Distances of codes -/
end Go.Vs

namespace Go.Vs

end Go.Vs

namespace Go.Vs

/-! ## Bits -/
end Go.Vs

namespace Go.Vs

/-! ## Opposite vectors -/
/-! ## A plane looks at itself -/
/-! ## Twice a vector -/
end Go.Vs

namespace Go.Vs

/-! ## Buckets -/
end Go.Vs

namespace Go.Vs

theorem topH_perm {k : Nat} {l m : List Hit} (h : l.Perm m) : topH k l = topH k m := by
  unfold topH
  rw [isort_uniq (isort_spec m).1 ((isort_spec m).2.trans h.symm)]
/-! ## Ranked again -/
/-! ## The nearest of a bucket -/
end Go.Vs

namespace Go.Vs

/-- All items but one. -/
def others (l : List Item) (x : Item) : List Item := l.filter fun y => decide (y.1 ≠ x.1)
/-- The hits of the neighbours of an item. -/
def nbH (l : List Item) (kind : Int) (many : Nat) (x : Item) : List Hit := topH many (hitsOf (others l x) kind x.2.1)
def nbs (l : List Item) (kind : Int) (many : Nat) (x : Item) : List Int := (nbH l kind many x).map (·.1)
theorem mem_others {l : List Item} {x y : Item} : y ∈ others l x ↔ y ∈ l ∧ y.1 ≠ x.1 := by unfold others; simp
theorem mem_nbs {l : List Item} {kind : Int} {many : Nat} {x : Item} {c : Int} (h : c ∈ nbs l kind many x) : ∃ y ∈ l, y.1 = c ∧ y.1 ≠ x.1 := by
  unfold nbs at h
  obtain ⟨t, ht, rfl⟩ := List.mem_map.1 h
  obtain ⟨y, hy, rfl⟩ := hitsOf_mem.1 (topH_sub _ _ t ht)
  obtain ⟨h1, h2⟩ := mem_others.1 hy
  exact ⟨y, h1, rfl, h2⟩
/-! ## Walks -/
theorem ltH_trans {a b c : Hit} (h1 : ltH a b = true) (h2 : ltH b c = true) : ltH a c = true := by
  rw [ltH_iff] at *; omega
end Go.Vs

namespace Go.Vs

/-! ## Walks -/
end Go.Vs

namespace Go.Vs

/-- From a key to a neighbour's. -/
def Edge (l : List Item) (kind : Int) (many : Nat) (c d : Int) : Prop := ∃ x ∈ l, x.1 = c ∧ d ∈ nbs l kind many x
inductive Reach (l : List Item) (kind : Int) (many : Nat) (key : Int) : Int → Prop
  | base : Reach l kind many key key
  | step {c d : Int} : Reach l kind many key c → Edge l kind many c d → Reach l kind many key d
theorem Edge.mem {l : List Item} {kind : Int} {many : Nat} {c d : Int} (e : Edge l kind many c d) : ∃ y ∈ l, y.1 = d := by
  obtain ⟨x, _, _, h2⟩ := e
  obtain ⟨y, hy, h3, _⟩ := mem_nbs h2; exact ⟨y, hy, h3⟩
theorem Reach.mem {l : List Item} {kind : Int} {many : Nat} {key c : Int} (hk : ∃ y ∈ l, y.1 = key) (r : Reach l kind many key c) : ∃ y ∈ l, y.1 = c := by
  cases r with
  | base => exact hk
  | step _ e => exact e.mem
end Go.Vs

namespace Go.Vs

/-- A loop from a to n. -/
theorem fold_from {S T R : Type} (st : S → Int → T) (g : S → Nat → S) (Inv : Nat → S → Prop) {fin : S → R} {f : T → Option (T ⊕ R)} (n : Nat)
    (hs : ∀ s i, i < n → Inv i s → f (st s (i : Int)) = some (.inl (st (g s i) ((i + 1 : Nat) : Int))) ∧ Inv (i + 1) (g s i)) (he : ∀ s, Inv n s → f (st s (n : Int)) = some (.inr (fin s))) :
    ∀ (m a : Nat) (s : S), a + m = n → Inv a s → loopM f (st s (a : Int)) = some (fin ((List.range' a m).foldl g s)) ∧ Inv n ((List.range' a m).foldl g s) := by
  intro m
  induction m with
  | zero =>
    intro a s h hi
    have : a = n := by omega
    subst this
    rw [loopM_eq, he s hi]; simpa [selim] using hi
  | succ m ih =>
    intro a s h hi
    obtain ⟨h1, h2⟩ := hs s a (by omega) hi
    rw [loopM_eq, h1, List.range'_succ]
    exact ih (a + 1) _ (by omega) h2
theorem from_bind {S T R U : Type} (st : S → Int → T) (g : S → Nat → S) (Inv : Nat → S → Prop) (fin : S → R) {f : T → Option (T ⊕ R)} (a n : Nat) {s0 : S} {k : R → Option U} {r : Option U} (ha : a ≤ n) (h0 : Inv a s0)
    (hs : ∀ s i, i < n → Inv i s → f (st s (i : Int)) = some (.inl (st (g s i) ((i + 1 : Nat) : Int))) ∧ Inv (i + 1) (g s i)) (he : ∀ s, Inv n s → f (st s (n : Int)) = some (.inr (fin s)))
    (hk : Inv n ((List.range' a (n - a)).foldl g s0) → k (fin ((List.range' a (n - a)).foldl g s0)) = r) : (loopM f (st s0 (a : Int))).bind k = r := by
  obtain ⟨h1, h2⟩ := fold_from st g Inv (fin := fin) n hs he (n - a) a s0 (by omega) h0
  rw [h1]; exact hk h2
/-! ## Filters -/
/-! ## What is drawn -/
end Go.Vs

namespace Go.Vs

end Go.Vs

namespace Go.Vs

def inH (x : Hit) : Bool := decide (1 ≤ x.1 ∧ x.1 ≤ 99) && decide (0 ≤ x.2 ∧ x.2 ≤ 1000000)
def hAt (l : List Hit) (i : Nat) : Hit := l.getD i (0, 0)
theorem hAt_eq {l : List Hit} {i : Nat} (h : i < l.length) : hAt l i = l[i] := by unfold hAt; simp [List.getD, h]
def okAt (l : List Hit) (i : Nat) : Bool := inH (hAt l i) && (decide (i = 0) || ltH (hAt l (i - 1)) (hAt l i)) && (l.take i).all fun y => !(y.1 == (hAt l i).1)
/-- Valid hits. -/
def okHs (l : List Hit) : Bool := (List.range l.length).all (okAt l) && decide (l.length ≤ 16)
theorem okHs_iff {l : List Hit} : okHs l = true ↔ (∀ x ∈ l, inH x = true) ∧ l.Pairwise (fun x y => ltH x y = true) ∧ (l.map (·.1)).Nodup ∧ l.length ≤ 16 := by
  unfold okHs
  rw [Bool.and_eq_true, List.all_eq_true, decide_eq_true_eq]
  constructor
  · rintro ⟨h, hl⟩
    have hh : ∀ i (hi : i < l.length), okAt l i = true := fun i hi => h i (List.mem_range.2 hi)
    simp only [okAt, Bool.and_eq_true, Bool.or_eq_true, decide_eq_true_eq, List.all_eq_true, Bool.not_eq_true', beq_eq_false_iff_ne] at hh
    refine ⟨?_, ?_, ?_, hl⟩
    · intro x hx
      obtain ⟨i, hi, rfl⟩ := List.mem_iff_getElem.1 hx
      have := (hh i hi).1.1
      rwa [hAt_eq hi] at this
    · rw [List.pairwise_iff_getElem]
      have adj : ∀ i (hi : i + 1 < l.length), ltH l[i] l[i + 1] = true := by
        intro i hi
        have := (hh (i + 1) hi).1.2
        rcases this with h0 | h1
        · omega
        · rw [hAt_eq hi] at h1
          rw [show i + 1 - 1 = i by omega, hAt_eq (by omega : i < l.length)] at h1
          exact h1
      intro i j hi hj hij
      have key : ∀ m, ∀ (h : i + m + 1 < l.length), ltH l[i] l[i + m + 1] = true := by
        intro m
        induction m with
        | zero => intro h; exact adj i h
        | succ m ih => intro h; exact ltH_trans (ih (by omega)) (adj (i + m + 1) h)
      have := key (j - i - 1) (by omega)
      simpa [show i + (j - i - 1) + 1 = j by omega] using this
    · rw [List.nodup_iff_pairwise_ne, List.pairwise_iff_getElem]
      intro i j hi hj hij
      simp only [List.length_map] at hi hj
      have := (hh j hj).2 l[i] (List.mem_iff_getElem.2 ⟨i, by rw [List.length_take]; omega, by simp⟩)
      rw [hAt_eq hj] at this
      simpa using this
  · rintro ⟨h1, h2, h3, h4⟩
    refine ⟨fun i hi => ?_, h4⟩
    have hi := List.mem_range.1 hi
    simp only [okAt, Bool.and_eq_true, Bool.or_eq_true, decide_eq_true_eq, List.all_eq_true, Bool.not_eq_true', beq_eq_false_iff_ne, hAt_eq hi]
    refine ⟨⟨h1 _ (List.getElem_mem hi), ?_⟩, ?_⟩
    · by_cases h0 : i = 0
      · exact .inl h0
      · refine .inr ?_
        rw [hAt_eq (by omega : i - 1 < l.length)]
        exact (List.pairwise_iff_getElem.1 h2) (i - 1) i (by omega) hi (by omega)
    · intro y hy
      obtain ⟨k, hk, rfl⟩ := List.mem_iff_getElem.1 hy
      rw [List.length_take] at hk
      rw [List.nodup_iff_pairwise_ne, List.pairwise_iff_getElem] at h3
      have := h3 k i (by simp; omega) (by simp; omega) (by omega)
      simpa using this
theorem valid_row {l : List Hit} {i : Nat} (hi : i < l.length) (hl : l.length ≤ 2000000) {R : Type} (r : R) :
    (loopM (fun (s52 : (Int)) => (bif decide (s52 < (i : Int)) then
      (gidx l s52).bind fun x55 =>
      (bif x55.1 == l[i].1 then
      some (Sum.inr (Sum.inr r) : Int ⊕ (Unit ⊕ R))
     else
      some (Sum.inl (w64 (s52 + 1))))
     else
      some (Sum.inr (Sum.inl ())))) 0) = some (if (l.take i).all (fun y => !(y.1 == (l[i]).1)) then Sum.inl () else Sum.inr r) := by
  refine loop_all (xs := l.take i) (P := fun y => !(y.1 == (l[i]).1)) (r := r) ?_ ?_
  · intro k hk
    have hk' : k < i := by rw [List.length_take] at hk; omega
    have e1 : decide ((k : Int) < (i : Int)) = true := decide_eq_true (by omega)
    simp only [e1, cond_true, gidx_nat (show k < l.length by omega), Option.bind_some, w64_succ (i := k) (by omega), List.getElem_take]
    cases l[k].1 == l[i].1 <;> simp
  · rw [List.length_take, Nat.min_eq_left (by omega)]
    simp
theorem specValidHits_ok {l : List Hit} (hl : l.length ≤ 2000000) : M.spec_validHits l = some (okHs l) := by
  unfold M.spec_validHits
  have key : ∀ i (h : i < (List.range l.length).length), okAt l (List.range l.length)[i] = okAt l i := by intro i h; simp
  rw [loop_all (xs := List.range l.length) (P := okAt l) (r := false) ?_ ?_]
  · unfold okHs
    cases (List.range l.length).all (okAt l) with
    | true => simp [selim]; omega
    | false => simp [selim]
  · intro i h
    have hi : i < l.length := by simpa using h
    have e1 : decide ((i : Int) < (l.length : Int)) = true := decide_eq_true (by omega)
    rw [key i h]
    simp only [e1, cond_true, gidx_nat hi, Option.bind_some, inRange_ok, valid_row hi hl false, w64_succ (i := i) (show i < 4000000000000000000 by omega)]
    unfold okAt
    rw [hAt_eq hi]
    unfold inH
    cases hk : decide (1 ≤ l[i].1 ∧ l[i].1 ≤ 99) with
    | false => simp
    | true =>
      cases hd : decide (0 ≤ l[i].2 ∧ l[i].2 ≤ 1000000) with
      | false => simp
      | true =>
        simp only [Bool.not_true, cond_false, Bool.true_and, Option.bind_some]
        by_cases h0 : i = 0
        · subst h0
          simp [selim]
        · have e2 : decide ((0 : Int) < (i : Int)) = true := decide_eq_true (by omega)
          have e3 : w64 ((i : Int) - 1) = ((i - 1 : Nat) : Int) := by rw [w64_id (by omega) (by omega)]; omega
          have e4 : decide (i = 0) = false := decide_eq_false h0
          simp only [e2, e3, e4, cond_true, gidx_nat (show i - 1 < l.length by omega), Option.bind_some, nearer_ok, Bool.false_or, hAt_eq (show i - 1 < l.length by omega)]
          cases hn : ltH l[i - 1] l[i] with
          | false => simp
          | true =>
            simp only [Bool.not_true, cond_false, Bool.true_and]
            cases (l.take i).all (fun y => !(y.1 == l[i].1)) <;> simp [selim]
  · simp
/-- The place of a key. -/
def posH (l : List Hit) (key : Int) : Option Nat := l.findIdx? fun y => y.1 == key
def posI (l : List Hit) (key : Int) : Int := match posH l key with | some i => (i : Int) | none => -1
theorem specHitAt_ok {l : List Hit} {key : Int} (hl : l.length ≤ 2000000) : M.spec_hitAt l key = some (posI l key) := by
  unfold M.spec_hitAt posI posH
  rw [loop_first (xs := l) (fun y => y.1 == key) (fun i => (i : Int)) ?_ ?_]
  · cases l.findIdx? (fun y => y.1 == key) <;> simp [selim]
  · intro i hi
    have e1 : decide ((i : Int) < (l.length : Int)) = true := decide_eq_true (by omega)
    simp only [e1, cond_true, gidx_nat hi, Option.bind_some, w64_succ (i := i) (by omega)]
    cases l[i].1 == key <;> simp
  · simp
theorem posH_some {l : List Hit} {key : Int} {i : Nat} (h : posH l key = some i) : ∃ hi : i < l.length, l[i].1 = key := by
  unfold posH at h
  rw [List.findIdx?_eq_some_iff_getElem] at h
  obtain ⟨hi, h1, _⟩ := h
  exact ⟨hi, by simpa using h1⟩
theorem posH_none {l : List Hit} {key : Int} : posH l key = none ↔ ∀ x ∈ l, x.1 ≠ key := by
  unfold posH
  rw [List.findIdx?_eq_none_iff]
  simp
theorem posH_at {l : List Hit} (hn : (l.map (·.1)).Nodup) {i : Nat} (hi : i < l.length) : posH l l[i].1 = some i := by
  unfold posH
  rw [List.findIdx?_eq_some_iff_getElem]
  refine ⟨hi, by simp, fun j hj => ?_⟩
  rw [List.nodup_iff_pairwise_ne, List.pairwise_iff_getElem] at hn
  have := hn j i (by simp; omega) (by simp; omega) hj
  simpa using this
/-- The score of a key. -/
def rkS (l : List Hit) (key : Int) : Int := match posH l key with | some i => 100000 / ((60 + i + 1 : Nat) : Int) | none => 0
theorem specRk_ok {l : List Hit} {key : Int} (hl : l.length ≤ 2000000) : M.spec_rankScore l key = some (rkS l key) := by
  unfold M.spec_rankScore rkS
  simp only [specHitAt_ok hl, Option.bind_some, posI]
  cases h : posH l key with
  | none => simp
  | some i =>
    obtain ⟨hi, _⟩ := posH_some h
    have e1 : decide ((i : Int) < 0) = false := decide_eq_false (by omega)
    have e2 : w64 (w64 (60 + (i : Int)) + 1) = ((60 + i + 1 : Nat) : Int) := by
      rw [w64_id (n := 60 + (i : Int)) (by omega) (by omega), w64_id (by omega) (by omega)]; omega
    simp only [e1, cond_false, e2]
    have e3 : (100000 : Int).tdiv ((60 + i + 1 : Nat) : Int) = 100000 / ((60 + i + 1 : Nat) : Int) := Int.tdiv_eq_ediv_of_nonneg (by omega)
    have e4 : 0 ≤ 100000 / ((60 + i + 1 : Nat) : Int) := Int.ediv_nonneg (by omega) (by omega)
    have e5 : 100000 / ((60 + i + 1 : Nat) : Int) ≤ 100000 := Int.ediv_le_self _ (by omega)
    unfold gquo
    rw [if_neg (by omega), e3, w64_id (by omega) (by omega)]
    simp
def rkV (l : List Hit) (key : Int) : Int := if okHs l = true then rkS l key else -1
end Go.Vs

namespace Go.Vs

end Go.Vs

namespace Go.Vs

end Go.Vs

namespace Go.Vs

/-! ## Walks -/
theorem compare_sign (x y : Hit) : ∃ r, M.impl_compareHits (x.1, x.2) (y.1, y.2) = some r ∧ decide (0 ≤ r) = !ltH x y := by
  obtain ⟨r, h1, h2, _⟩ := compareHits_ok x y
  refine ⟨r, h1, ?_⟩
  rw [← h2, Bool.eq_iff_iff]; simp
end Go.Vs

namespace Go.Vs

theorem implPlace_ok {l : List Hit} {key : Int} (hl : l.length ≤ 2000000) : M.impl_placeIn l key = some (posI l key) := by
  unfold M.impl_placeIn M.slices_IndexFunc_impl_Hit_impl_Hit__impl_placeIn_1 posI posH
  rw [loop_first (xs := l) (fun y => y.1 == key) (fun i => (i : Int)) ?_ ?_]
  · cases l.findIdx? (fun y => y.1 == key) <;> simp [selim]
  · intro i hi
    have e1 : decide ((i : Int) < (l.length : Int)) = true := decide_eq_true (by omega)
    simp only [e1, cond_true, gidx_nat hi, Option.bind_some, M.impl_placeIn_1__p3, w64_succ (i := i) (by omega)]
    cases l[i].1 == key <;> simp
  · simp
theorem posI_neg {l : List Hit} {key : Int} : decide (posI l key < 0) = l.all fun y => !(y.1 == key) := by
  unfold posI
  cases h : posH l key with
  | none =>
    have := posH_none.1 h
    rw [Bool.eq_iff_iff]
    simp only [List.all_eq_true, Bool.not_eq_true', beq_eq_false_iff_ne, decide_eq_true_eq]
    exact ⟨fun _ => this, fun _ => by omega⟩
  | some i =>
    obtain ⟨hi, e⟩ := posH_some h
    have h1 : decide ((i : Int) < 0) = false := decide_eq_false (by omega)
    have h2 : (l.all fun y => !(y.1 == key)) = false := by
      rw [List.all_eq_false]
      exact ⟨l[i], List.getElem_mem hi, by simp [e]⟩
    rw [h2]; exact h1
theorem posI_nn {l : List Hit} {key : Int} : decide (0 ≤ posI l key) = !(l.all fun y => !(y.1 == key)) := by
  rw [← posI_neg, Bool.eq_iff_iff]; simp
theorem validKey_ok (k : Int) : M.impl_validKey k = some (decide (1 ≤ k ∧ k ≤ 99)) := by
  unfold M.impl_validKey
  by_cases h1 : 1 ≤ k
  · by_cases h2 : k ≤ 99 <;> simp [h1, h2]
  · simp [h1]
theorem implValidHit_ok (h : Hit) : M.impl_validHit (h.1, h.2) = some (inH h) := by
  unfold M.impl_validHit inH
  simp only [validKey_ok, Option.bind_some]
  by_cases h1 : 1 ≤ h.1 ∧ h.1 ≤ 99
  · have e1 : decide (1 ≤ h.1 ∧ h.1 ≤ 99) = true := decide_eq_true h1
    simp only [e1, cond_true, Bool.true_and]
    by_cases h2 : 0 ≤ h.2
    · simp [h2]
    · simp [h2]
  · have e1 : decide (1 ≤ h.1 ∧ h.1 ≤ 99) = false := decide_eq_false h1
    simp only [e1, cond_false, Bool.false_and]
theorem implVH_ok {l : List Hit} (hl : l.length ≤ 2000000) : M.impl_ValidHits l = some (okHs l) := by
  unfold M.impl_ValidHits
  by_cases h16 : (16 : Int) < (l.length : Int)
  · have : okHs l = false := by
      unfold okHs
      rw [show decide (l.length ≤ 16) = false from decide_eq_false (by omega), Bool.and_false]
    simp [h16, this]
  simp only [h16, decide_false, cond_false]
  have key : ∀ i (h : i < (List.range l.length).length), okAt l (List.range l.length)[i] = okAt l i := by intro i h; simp
  rw [loop_all (xs := List.range l.length) (P := okAt l) (r := false) ?_ ?_]
  · unfold okHs
    rw [show decide (l.length ≤ 16) = true from decide_eq_true (by omega), Bool.and_true]
    cases (List.range l.length).all (okAt l) <;> simp [selim]
  · intro i h
    have hi : i < l.length := by simpa using h
    have e1 : decide ((i : Int) < (l.length : Int)) = true := decide_eq_true (by omega)
    rw [key i h]
    have hgs : gslice l 0 (i : Int) = some (l.take i) := by
      rw [gslice_ok (xs := l) (show (0 : Int) ≤ 0 by omega) (show (0 : Int) ≤ (i : Int) by omega) (by omega)]; simp
    have htl : (l.take i).length ≤ 2000000 := by rw [List.length_take]; omega
    simp only [e1, cond_true, gidx_nat hi, Option.bind_some, implValidHit_ok, hgs, implPlace_ok htl, posI_nn, w64_succ (i := i) (show i < 4000000000000000000 by omega)]
    unfold okAt
    rw [hAt_eq hi]
    cases hv : inH l[i] with
    | false => simp
    | true =>
      simp only [Bool.not_true, cond_false, Bool.true_and]
      by_cases h0 : i = 0
      · subst h0; simp
      · have e2 : decide ((0 : Int) < (i : Int)) = true := decide_eq_true (by omega)
        have e3 : w64 ((i : Int) - 1) = ((i - 1 : Nat) : Int) := by rw [w64_id (by omega) (by omega)]; omega
        have e4 : decide (i = 0) = false := decide_eq_false h0
        obtain ⟨r, hr1, hr2⟩ := compare_sign l[i - 1] l[i]
        simp only [e2, e3, e4, cond_true, gidx_nat (show i - 1 < l.length by omega), Option.bind_some, hr1, hr2, Bool.false_or, hAt_eq (show i - 1 < l.length by omega)]
        cases hn : ltH l[i - 1] l[i] with
        | false => simp
        | true =>
          simp only [Bool.not_true, cond_false, Bool.true_and]
          cases (l.take i).all (fun y => !(y.1 == l[i].1)) <;> simp
  · simp
theorem implRank_ok {l : List Hit} {key : Int} (hl : l.length ≤ 2000000) : M.impl_RankScore l key = some (rkV l key) := by
  unfold M.impl_RankScore rkV rkS
  simp only [implVH_ok hl, implPlace_ok hl, Option.bind_some]
  cases okHs l with
  | false => simp
  | true =>
    simp only [Bool.not_true, cond_false, if_true]
    cases h : posH l key with
    | none =>
      have : posI l key = -1 := by unfold posI; rw [h]
      simp [this]
    | some i =>
      have : posI l key = (i : Int) := by unfold posI; rw [h]
      rw [this]
      obtain ⟨hi, _⟩ := posH_some h
      have e1 : decide ((i : Int) < 0) = false := decide_eq_false (by omega)
      have e2 : w64 (w64 (60 + (i : Int)) + 1) = ((60 + i + 1 : Nat) : Int) := by
        rw [w64_id (n := 60 + (i : Int)) (by omega) (by omega), w64_id (by omega) (by omega)]; omega
      simp only [e1, cond_false, e2]
      have e3 : (100000 : Int).tdiv ((60 + i + 1 : Nat) : Int) = 100000 / ((60 + i + 1 : Nat) : Int) := Int.tdiv_eq_ediv_of_nonneg (by omega)
      have e4 : 0 ≤ 100000 / ((60 + i + 1 : Nat) : Int) := Int.ediv_nonneg (by omega) (by omega)
      have e5 : 100000 / ((60 + i + 1 : Nat) : Int) ≤ 100000 := Int.ediv_le_self _ (by omega)
      unfold gquo
      rw [if_neg (by omega), e3, w64_id (by omega) (by omega)]
      simp
end Go.Vs

namespace Go.Vs

theorem nodup_of {l : List Hit} (h : (l.map (·.1)).Nodup) : l.Nodup := List.Pairwise.of_map (·.1) (fun a b h e => h (congrArg _ e)) h
theorem key_inj {l : List Hit} (h : (l.map (·.1)).Nodup) {x y : Hit} (hx : x ∈ l) (hy : y ∈ l) (e : x.1 = y.1) : x = y := by
  obtain ⟨i, hi, rfl⟩ := List.mem_iff_getElem.1 hx
  obtain ⟨j, hj, rfl⟩ := List.mem_iff_getElem.1 hy
  have h1 := posH_at h hi
  rw [e, posH_at h hj] at h1
  cases Option.some.inj h1; rfl
theorem rk_le (i : Nat) : (100000 : Int) / ((60 + i + 1 : Nat) : Int) ≤ 100000 := Int.ediv_le_self _ (by omega)
theorem rk_nn (i : Nat) : 0 ≤ (100000 : Int) / ((60 + i + 1 : Nat) : Int) := Int.ediv_nonneg (by omega) (by omega)
end Go.Vs

namespace Go.Vs

theorem len_sub {α : Type} [DecidableEq α] : ∀ {l m : List α}, l.Nodup → (∀ x ∈ l, x ∈ m) → l.length ≤ m.length
  | [], m, _, _ => Nat.zero_le _
  | x :: t, m, hn, hs => by
    obtain ⟨h1, h2⟩ := List.nodup_cons.1 hn
    have hx : x ∈ m := hs x (by simp)
    have := len_sub (m := m.erase x) h2 (fun y hy => (List.mem_erase_of_ne (by rintro rfl; exact h1 hy)).2 (hs y (by simp [hy])))
    rw [List.length_erase_of_mem hx] at this
    have : 0 < m.length := List.length_pos_of_mem hx
    simp only [List.length_cons]; omega
/-- The best of its key. -/
def Bst (S : List Hit) (x : Hit) : Prop := x ∈ S ∧ ∀ y ∈ S, y.1 = x.1 → x.2 ≤ y.2
structure BL (S L : List Hit) : Prop where
  keys : (L.map (·.1)).Nodup
  mem : ∀ x, x ∈ L ↔ Bst S x
theorem BL.nodup {S L : List Hit} (h : BL S L) : L.Nodup := nodup_of h.keys
theorem BL.same {S S' L L' : List Hit} {k : Nat} (h : BL S L) (h' : BL S' L') (hs : ∀ x, x ∈ S ↔ x ∈ S') : topH k L = topH k L' := by
  refine topH_perm ((List.perm_ext_iff_of_nodup h.nodup h'.nodup).2 fun x => ?_)
  rw [h.mem, h'.mem]
  unfold Bst
  constructor
  · rintro ⟨h1, h2⟩; exact ⟨(hs x).1 h1, fun y hy => h2 y ((hs y).2 hy)⟩
  · rintro ⟨h1, h2⟩; exact ⟨(hs x).2 h1, fun y hy => h2 y ((hs y).1 hy)⟩
end Go.Vs

namespace Go.Vs

theorem implGrowH_ok {n : Nat} (hn : n ≤ 1000000) : M.slices_Grow_impl_Hit_impl_Hit [] (n : Int) = some [] := by
  unfold M.slices_Grow_impl_Hit_impl_Hit
  have e0 : decide ((n : Int) < 0) = false := decide_eq_false (by omega)
  have e1 : w64 ((n : Int) - w64 ((([] : List Hit).length : Int) - (([] : List Hit).length : Int))) = (n : Int) := by
    have : w64 ((([] : List Hit).length : Int) - (([] : List Hit).length : Int)) = 0 := by decide
    rw [this, w64_id (by omega) (by omega)]; omega
  have g0 : gslice ([] : List Hit) 0 (([] : List Hit).length : Int) = some [] := by
    rw [gslice_ok (by omega) (by simp) (by simp)]; rfl
  simp only [e0, cond_false, e1]
  by_cases h : 0 < n
  · have e2 : decide (0 < (n : Int)) = true := decide_eq_true (by omega)
    have g1 : gappz ([] : List Hit) (n : Int) (0, 0) = some (List.replicate n (0, 0)) := by
      unfold gappz
      rw [if_pos ⟨by omega, by simp; omega⟩]; simp
    have g2 : gslice (List.replicate n ((0, 0) : Hit)) 0 (([] : List Hit).length : Int) = some [] := by
      rw [gslice_ok (by omega) (by simp) (by simp)]; simp
    simp only [e2, cond_true, g0, Option.bind_some, g1, g2]
  · have e2 : decide (0 < (n : Int)) = false := decide_eq_false (by omega)
    simp only [e2, cond_false, Option.bind_some]
theorem implConcat_ok {a b : List Hit} (ha : a.length ≤ 100000) (hb : b.length ≤ 100000) : M.slices_Concat_impl_Hit_impl_Hit [a, b] = some (a ++ b) := by
  unfold M.slices_Concat_impl_Hit_impl_Hit
  have c0 : decide ((0 : Int) < (([a, b] : List (List Hit)).length : Int)) = true := rfl
  have c1 : decide ((1 : Int) < (([a, b] : List (List Hit)).length : Int)) = true := rfl
  have c2 : decide ((2 : Int) < (([a, b] : List (List Hit)).length : Int)) = false := rfl
  have i0 : gidx ([a, b] : List (List Hit)) 0 = some a := rfl
  have i1 : gidx ([a, b] : List (List Hit)) 1 = some b := rfl
  have w0 : w64 ((0 : Int) + 1) = 1 := rfl
  have w1 : w64 ((1 : Int) + 1) = 2 := rfl
  have s0 : w64 ((0 : Int) + (a.length : Int)) = (a.length : Int) := by rw [w64_id (by omega) (by omega)]; omega
  have s1 : w64 ((a.length : Int) + (b.length : Int)) = ((a.length + b.length : Nat) : Int) := by rw [w64_id (by omega) (by omega)]; omega
  have n0 : decide ((a.length : Int) < 0) = false := decide_eq_false (by omega)
  have n1 : decide (((a.length + b.length : Nat) : Int) < 0) = false := decide_eq_false (by omega)
  rw [loopM_eq]
  simp only [c0, cond_true, i0, Option.bind_some, s0, n0, cond_false, w0, selim]
  rw [loopM_eq]
  simp only [c1, cond_true, i1, Option.bind_some, s1, n1, cond_false, w1, selim]
  rw [loopM_eq]
  simp only [c2, cond_false, Option.bind_some, selim, implGrowH_ok (show a.length + b.length ≤ 1000000 by omega)]
  rw [loopM_eq]
  simp only [c0, cond_true, i0, Option.bind_some, gapp_ok (show ([] : List Hit).length + a.length ≤ 2147483648 by simp; omega), w0, List.nil_append, selim]
  rw [loopM_eq]
  simp only [c1, cond_true, i1, Option.bind_some, gapp_ok (show a.length + b.length ≤ 2147483648 by omega), w1, selim]
  rw [loopM_eq]
  simp only [c2, cond_false, Option.bind_some, selim]
theorem implSortH_ok {l : List Hit} (hl : l.length ≤ 1000000) : M.slices_SortFunc_impl_Hit_impl_Hit__impl_compareHits l = some (isort l) := by
  unfold M.slices_SortFunc_impl_Hit_impl_Hit__impl_compareHits
  obtain ⟨d', h1, h2, h3⟩ := sortD_ok (cmp := cmpHits) (lt := ltH) (xs := l) (by omega) (fun x _ y _ => cmpHits_ok x y trivial trivial) (fun x _ => linH.irrefl x trivial) (fun x _ y _ z _ => linH.trans x y z trivial trivial trivial) (fun x _ y _ => linH.total x y trivial trivial)
  rw [isort_uniq h3 h2]
  exact h1
/-- The first ones of each key. -/
def frs1 (s : List Hit) (x : Hit) : List Hit := if s.all (fun y => !(y.1 == x.1)) = true then s ++ [x] else s
def frs (L : List Hit) : List Hit := L.foldl frs1 []
structure Frs (P s : List Hit) : Prop where
  sub : s.Sublist P
  keys : (s.map (·.1)).Nodup
  all : ∀ y ∈ P, ∃ z ∈ s, z.1 = y.1 ∧ z.2 ≤ y.2
theorem Frs.nil : Frs [] [] := ⟨List.Sublist.refl _, by simp, by simp⟩
theorem Frs.snoc {P s : List Hit} {x : Hit} (h : Frs P s) (hx : ∀ y ∈ P, ltH x y = false) : Frs (P ++ [x]) (frs1 s x) := by
  unfold frs1
  by_cases hc : s.all (fun y => !(y.1 == x.1)) = true
  · rw [if_pos hc]
    simp only [List.all_eq_true, Bool.not_eq_true', beq_eq_false_iff_ne] at hc
    refine ⟨List.Sublist.append h.sub (List.Sublist.refl _), ?_, ?_⟩
    · rw [List.map_append, List.nodup_append]
      refine ⟨h.keys, by simp, ?_⟩
      intro k hk k' hk' e
      obtain ⟨y, hy, rfl⟩ := List.mem_map.1 hk
      simp only [List.map_cons, List.map_nil, List.mem_singleton] at hk'
      exact hc y hy (e.trans hk')
    · intro y hy
      rcases List.mem_append.1 hy with hy | hy
      · obtain ⟨z, hz, h1, h2⟩ := h.all y hy
        exact ⟨z, by simp [hz], h1, h2⟩
      · rw [List.mem_singleton.1 hy]
        exact ⟨x, by simp, rfl, Int.le_refl _⟩
  · rw [if_neg hc]
    refine ⟨h.sub.trans (List.sublist_append_left _ _), h.keys, ?_⟩
    intro y hy
    rcases List.mem_append.1 hy with hy | hy
    · exact h.all y hy
    · rw [List.mem_singleton.1 hy]
      simp only [List.all_eq_true, Bool.not_eq_true', beq_eq_false_iff_ne] at hc
      have : ∃ z ∈ s, z.1 = x.1 := Classical.byContradiction fun hn => hc fun z hz e => hn ⟨z, hz, e⟩
      obtain ⟨z, hz, e⟩ := this
      refine ⟨z, hz, e, ?_⟩
      have := ltH_false.1 (hx z (h.sub.subset hz))
      omega
theorem frs_spec : ∀ {Q P s : List Hit}, Frs P s → (P ++ Q).Pairwise (fun x y => ltH y x = false) → Frs (P ++ Q) (Q.foldl frs1 s)
  | [], P, s, h, _ => by simpa using h
  | x :: Q, P, s, h, hp => by
    have e : P ++ x :: Q = (P ++ [x]) ++ Q := by simp
    rw [e] at hp ⊢
    rw [List.foldl_cons]
    refine frs_spec (h.snoc ?_) hp
    intro y hy
    have := (List.pairwise_append.1 ((List.pairwise_append.1 hp).1)).2.2 y hy x (by simp)
    exact this
theorem frs_BL {S : List Hit} : BL S (frs (isort S)) ∧ AscH (frs (isort S)) := by
  obtain ⟨h1, h2⟩ := isort_spec S
  have h := frs_spec (Q := isort S) Frs.nil (by rw [List.nil_append]; exact h1)
  rw [List.nil_append] at h
  change Frs (isort S) (frs (isort S)) at h
  refine ⟨⟨h.keys, fun x => ⟨fun hx => ?_, fun hx => ?_⟩⟩, h1.sublist h.sub⟩
  · refine ⟨h2.mem_iff.1 (h.sub.subset hx), fun y hy e => ?_⟩
    obtain ⟨z, hz, e1, e2⟩ := h.all y (h2.mem_iff.2 hy)
    have : z = x := key_inj h.keys hz hx (e1.trans e)
    rw [← this]; exact e2
  · obtain ⟨z, hz, e1, e2⟩ := h.all x (h2.mem_iff.2 hx.1)
    have h3 := hx.2 z (h2.mem_iff.1 (h.sub.subset hz)) e1
    have : z = x := Prod.ext e1 (by omega)
    rw [← this]; exact hz
theorem frs_len {L : List Hit} : (frs L).length ≤ L.length := by
  have : ∀ (Q s : List Hit), (Q.foldl frs1 s).length ≤ s.length + Q.length := by
    intro Q
    induction Q with
    | nil => intro s; simp
    | cons x Q ih =>
      intro s
      rw [List.foldl_cons]
      have h1 := ih (frs1 s x)
      have h2 : (frs1 s x).length ≤ s.length + 1 := by unfold frs1; split <;> simp
      simp only [List.length_cons]; omega
  have := this L []
  simpa [frs] using this
theorem implMerged_ok {a b : List Hit} (ha : a.length ≤ 100000) (hb : b.length ≤ 100000) : M.impl_mergedHits a b = some (frs (isort (a ++ b))) := by
  unfold M.impl_mergedHits
  have hl : (isort (a ++ b)).length ≤ 200000 := by rw [isort_len]; simp; omega
  simp only [implConcat_ok ha hb, Option.bind_some, implSortH_ok (show (a ++ b).length ≤ 1000000 by simp; omega)]
  generalize isort (a ++ b) = L at hl
  refine fold_bind (xs := L) (fun (s : List Hit) i => (s, i)) frs1 (fun i s => s.length ≤ i) (fun s => s) (s0 := []) (by simp) ?_ ?_ ?_
  · intro s i hi hs
    have e1 : decide ((i : Int) < (L.length : Int)) = true := decide_eq_true (by omega)
    simp only [e1, cond_true, gidx_nat hi, Option.bind_some, implPlace_ok (show s.length ≤ 2000000 by omega), posI_neg, w64_succ (i := i) (show i < 4000000000000000000 by omega)]
    unfold frs1
    by_cases hc : s.all (fun y => !(y.1 == L[i].1)) = true
    · rw [hc, if_pos rfl]
      simp only [cond_true, gapp_ok (show s.length + [(L[i].1, L[i].2)].length ≤ 2147483648 by simp; omega), Option.bind_some, true_and]
      simp; omega
    · rw [if_neg hc, Bool.not_eq_true] at *
      rw [hc]
      simp only [cond_false, Option.bind_some, true_and]; omega
  · intro s _; simp
  · intro _; rfl
end Go.Vs

namespace Go.Vs

end Go.Vs

namespace Go.Vs

end Go.Vs

namespace Go.Vs

theorem rkS_bound (l : List Hit) (k : Int) : 0 ≤ rkS l k ∧ rkS l k ≤ 100000 := by
  unfold rkS
  cases posH l k with
  | none => simp
  | some i => exact ⟨rk_nn i, rk_le i⟩
def scS (a b : List Hit) (k : Int) : Int := rkS a k + rkS b k
theorem specSc_ok {a b : List Hit} {k : Int} (ha : a.length ≤ 2000000) (hb : b.length ≤ 2000000) : M.spec_scoreOf a b k = some (scS a b k) := by
  unfold M.spec_scoreOf
  have h1 := rkS_bound a k
  have h2 := rkS_bound b k
  simp only [specRk_ok ha, specRk_ok hb, Option.bind_some]
  rw [w64_id (by omega) (by omega)]; rfl
/-- Behind all that are no less. -/
def insK (sc : Int → Int) (x : Int) : List Int → List Int
  | [] => [x]
  | y :: l => if sc y < sc x then x :: y :: l else y :: insK sc x l
theorem insK_split {sc : Int → Int} {x : Int} {Q : List Int} (hq : ∀ q ∈ Q, sc q < sc x) : ∀ {P : List Int}, (∀ p ∈ P, ¬ sc p < sc x) → insK sc x (P ++ Q) = P ++ x :: Q
  | [], _ => by
    cases Q with
    | nil => rfl
    | cons q Q => simp only [List.nil_append, insK, if_pos (hq q (by simp))]
  | y :: P, h => by
    simp only [List.cons_append, insK, if_neg (h y (by simp))]
    rw [insK_split hq fun p hp => h p (by simp [hp])]
theorem insK_perm (sc : Int → Int) (x : Int) : ∀ l : List Int, (insK sc x l).Perm (x :: l)
  | [] => List.Perm.refl _
  | y :: l => by
    unfold insK
    split
    · exact List.Perm.refl _
    · exact ((insK_perm sc x l).cons y).trans (List.Perm.swap x y l)
theorem insK_len (sc : Int → Int) (x : Int) (l : List Int) : (insK sc x l).length = l.length + 1 := by rw [(insK_perm sc x l).length_eq]; rfl
/-- More score first, then the lesser key. -/
def bef (sc : Int → Int) (y z : Int) : Prop := sc z < sc y ∨ sc z = sc y ∧ y < z
theorem insK_bef {sc : Int → Int} {x : Int} : ∀ {l : List Int}, l.Pairwise (bef sc) → (∀ y ∈ l, y < x) → (insK sc x l).Pairwise (bef sc)
  | [], _, _ => by simp [insK]
  | y :: l, hp, hl => by
    obtain ⟨h1, h2⟩ := List.pairwise_cons.1 hp
    unfold insK
    split
    · rename_i hlt
      refine List.pairwise_cons.2 ⟨fun z hz => ?_, hp⟩
      rcases List.mem_cons.1 hz with rfl | hz
      · exact .inl hlt
      · rcases h1 z hz with h | ⟨h, _⟩
        · exact .inl (by omega)
        · exact .inl (by omega)
    · rename_i hge
      refine List.pairwise_cons.2 ⟨fun z hz => ?_, insK_bef h2 fun u hu => hl u (by simp [hu])⟩
      rcases List.mem_cons.1 ((insK_perm sc x l).mem_iff.1 hz) with rfl | hz
      · have := hl y (by simp)
        by_cases he : sc z = sc y
        · exact .inr ⟨he, this⟩
        · exact .inl (by omega)
      · exact h1 z hz
def hasKey (a b : List Hit) (k : Int) : Bool := (posH a k).isSome || (posH b k).isSome
def fuseL (a b : List Hit) : List Int := (List.range' 1 99).foldl (fun (s : List Int) (k : Nat) => if hasKey a b (k : Int) = true then insK (scS a b) (k : Int) s else s) []
def fuseV (a b : List Hit) : List Int := if okHs a = true ∧ okHs b = true then fuseL a b else []
theorem bubble {a b : List Hit} (ha : a.length ≤ 2000000) (hb : b.length ≤ 2000000) {x : Int} {orig : List Int} (hs : orig.Pairwise (bef (scS a b))) (hl : orig.length ≤ 1000000) :
    loopM (fun (s42 : (List Int) × (Int)) => Option.bind ((bif decide (0 < s42.2) then
      (gidx s42.1 s42.2).bind fun x47 =>
      (M.spec_scoreOf a b x47).bind fun r53 =>
      (gidx s42.1 (w64 (s42.2 - 1))).bind fun x56 =>
      (M.spec_scoreOf a b x56).bind fun r63 =>
      some (decide (r63 < r53))
     else
      some false)) fun o45 =>
      (bif o45 then
      (gidx s42.1 s42.2).bind fun x70 =>
      (gidx s42.1 (w64 (s42.2 - 1))).bind fun x76 =>
      (gidx s42.1 s42.2).bind fun x82 =>
      (gidx (s42.1.set s42.2.toNat x76) (w64 (s42.2 - 1))).bind fun x88 =>
      some (.inl (((s42.1.set s42.2.toNat x76).set (w64 (s42.2 - 1)).toNat x70), w64 (s42.2 - 1)))
     else
      some (.inr s42.1))) (orig ++ [x], (orig.length : Int)) = some (insK (scS a b) x orig) := by
  refine loop_to (fun s => ∃ P Q, s = (P ++ x :: Q, (P.length : Int)) ∧ P ++ Q = orig ∧ ∀ q ∈ Q, scS a b q < scS a b x) (fun s => s.2.toNat) ?_ ⟨orig, [], rfl, by simp, by simp⟩
  rintro _ ⟨P, Q, rfl, rfl, hq⟩
  rcases List.eq_nil_or_concat P with rfl | ⟨P', y, rfl⟩
  · right
    simp only [List.length_nil, Int.natCast_zero, Int.lt_irrefl, decide_false, cond_false, Option.bind_some, List.nil_append]
    have := insK_split (P := []) hq (by simp)
    rw [List.nil_append, List.nil_append] at this
    rw [this]
  · have hP : (P'.concat y).length = P'.length + 1 := by simp
    have hlen : P'.length ≤ 1000000 := by simp at hl; omega
    have e1 : decide ((0 : Int) < ((P'.concat y).length : Int)) = true := decide_eq_true (by omega)
    have e2 : w64 (((P'.concat y).length : Int) - 1) = (P'.length : Int) := by rw [w64_id (by omega) (by omega)]; omega
    have g1 : gidx (P'.concat y ++ x :: Q) ((P'.concat y).length : Int) = some x := by
      rw [gidx_nat (by simp)]; simp
    have g2 : gidx (P'.concat y ++ x :: Q) (P'.length : Int) = some y := by
      rw [gidx_nat (by simp)]; simp
    have g3 : ∃ z, gidx ((P'.concat y ++ x :: Q).set ((P'.concat y).length : Int).toNat y) (P'.length : Int) = some z := by
      rw [gidx_nat (by simp)]; exact ⟨_, rfl⟩
    obtain ⟨z, g3⟩ := g3
    simp only [e1, cond_true, e2, g1, g2, g3, Option.bind_some, specSc_ok ha hb]
    by_cases hc : scS a b y < scS a b x
    · left
      refine ⟨(P' ++ x :: y :: Q, (P'.length : Int)), ?_, ⟨P', y :: Q, rfl, by simp, ?_⟩, by simp only [Int.toNat_natCast]; omega⟩
      · simp only [decide_eq_true hc, cond_true, Int.toNat_natCast]
        congr 3
        rw [hP]
        simp only [List.concat_eq_append, List.append_assoc, List.singleton_append]
        rw [List.set_append_right _ _ (by omega), show P'.length + 1 - P'.length = 1 by omega]
        simp only [List.set_cons_succ, List.set_cons_zero]
        rw [List.set_append_right _ _ (Nat.le_refl _), Nat.sub_self]
        rfl
      · intro q hq'
        rcases List.mem_cons.1 hq' with rfl | h
        · exact hc
        · exact hq q h
    · right
      simp only [decide_eq_false hc, cond_false]
      rw [insK_split hq]
      intro p hp
      simp only [List.concat_eq_append, List.mem_append, List.mem_singleton] at hp
      rcases hp with hp | rfl
      · have hpw := (List.pairwise_append.1 hs).1
        simp only [List.concat_eq_append] at hpw
        have := (List.pairwise_append.1 hpw).2.2 p hp y (by simp)
        rcases this with h | ⟨h, _⟩
        · omega
        · omega
      · exact hc
theorem specFuse_ok {a b : List Hit} (ha : a.length ≤ 2000000) (hb : b.length ≤ 2000000) : M.spec_FuseRanks a b = some (fuseV a b) := by
  unfold M.spec_FuseRanks fuseV
  simp only [specValidHits_ok ha, specValidHits_ok hb, Option.bind_some]
  cases hoa : okHs a with
  | false => simp
  | true =>
    cases hob : okHs b with
    | false => simp
    | true =>
      simp only [Bool.not_true, cond_false, Option.bind_some, and_self, if_true]
      refine from_bind (fun (s : List Int) i => (s, i)) (fun s k => if hasKey a b (k : Int) = true then insK (scS a b) (k : Int) s else s) (fun i s => s.Pairwise (bef (scS a b)) ∧ (∀ y ∈ s, y < (i : Int)) ∧ s.length ≤ i) (fun s => s) 1 100 (s0 := []) (by omega) ⟨List.Pairwise.nil, by simp, by simp⟩ ?_ ?_ ?_
      · rintro s i hi ⟨i1, i2, i3⟩
        have e1 : decide ((i : Int) ≤ 99) = true := decide_eq_true (by omega)
        simp only [e1, cond_true, specHitAt_ok ha, specHitAt_ok hb, Option.bind_some, w64_succ (i := i) (by omega)]
        have hc : Option.bind ((bif decide (posI a (i : Int) < 0) then some (decide (posI b (i : Int) < 0)) else some false)) (fun o => some o) = some (!hasKey a b (i : Int)) := by
          unfold posI hasKey
          cases posH a (i : Int) with
          | none => cases posH b (i : Int) with
            | none => rfl
            | some n => simp
          | some n =>
            have : decide ((n : Int) < 0) = false := decide_eq_false (by omega)
            simp only [this, cond_false]; simp
        cases hk : hasKey a b (i : Int) with
        | false =>
          rw [hk] at hc
          have hc' : (bif decide (posI a (i : Int) < 0) then some (decide (posI b (i : Int) < 0)) else some false) = some true := by simpa using hc
          simp only [hc', Option.bind_some, cond_true]
          exact ⟨by simp, i1, fun y hy => by have := i2 y hy; omega, Nat.le_succ_of_le i3⟩
        | true =>
          rw [hk] at hc
          have hc' : (bif decide (posI a (i : Int) < 0) then some (decide (posI b (i : Int) < 0)) else some false) = some false := by simpa using hc
          simp only [hc', Option.bind_some, cond_false, if_true]
          rw [gapp_ok (by simp; omega), Option.bind_some]
          have e3 : w64 (((s ++ [(i : Int)]).length : Int) - 1) = (s.length : Int) := by rw [w64_id (by simp only [List.length_append, List.length_singleton]; omega) (by simp only [List.length_append, List.length_singleton]; omega)]; simp
          rw [e3, bubble ha hb i1 (by omega)]
          refine ⟨rfl, insK_bef i1 i2, fun y hy => ?_, by rw [insK_len]; omega⟩
          rcases List.mem_cons.1 ((insK_perm _ _ _).mem_iff.1 hy) with rfl | h
          · omega
          · have := i2 y h; omega
      · intro s _; simp
      · intro _; rfl
end Go.Vs

namespace Go.Vs

theorem fold_fuse (sc : Int → Int) (p : Int → Bool) : ∀ (ks : List Nat), ks.Pairwise (· < ·) → ∀ s : List Int, s.Pairwise (bef sc) → (∀ y ∈ s, ∀ k ∈ ks, y < (k : Int)) →
    (ks.foldl (fun (s : List Int) (k : Nat) => if p (k : Int) = true then insK sc (k : Int) s else s) s).Pairwise (bef sc) ∧ ∀ x, x ∈ ks.foldl (fun (s : List Int) (k : Nat) => if p (k : Int) = true then insK sc (k : Int) s else s) s ↔ x ∈ s ∨ ∃ k ∈ ks, p (k : Int) = true ∧ x = (k : Int)
  | [], _, s, hs, _ => ⟨hs, fun x => by simp⟩
  | k :: ks, hk, s, hs, hl => by
    obtain ⟨h1, h2⟩ := List.pairwise_cons.1 hk
    rw [List.foldl_cons]
    by_cases hp : p (k : Int) = true
    · rw [if_pos hp]
      have hlk : ∀ y ∈ s, y < (k : Int) := fun y hy => hl y hy k (by simp)
      have hmem : ∀ x, x ∈ insK sc (k : Int) s ↔ x = (k : Int) ∨ x ∈ s := fun x => by rw [(insK_perm sc (k : Int) s).mem_iff]; simp
      obtain ⟨r1, r2⟩ := fold_fuse sc p ks h2 (insK sc (k : Int) s) (insK_bef hs hlk) (fun y hy j hj => by
        rcases (hmem y).1 hy with rfl | h
        · have := h1 j hj; omega
        · exact hl y h j (by simp [hj]))
      refine ⟨r1, fun x => ?_⟩
      rw [r2, hmem]
      constructor
      · rintro ((rfl | h) | ⟨j, hj, h⟩)
        · exact .inr ⟨k, by simp, hp, rfl⟩
        · exact .inl h
        · exact .inr ⟨j, by simp [hj], h⟩
      · rintro (h | ⟨j, hj, hpj, rfl⟩)
        · exact .inl (.inr h)
        · rcases List.mem_cons.1 hj with rfl | hj
          · exact .inl (.inl rfl)
          · exact .inr ⟨j, hj, hpj, rfl⟩
    · rw [if_neg hp]
      obtain ⟨r1, r2⟩ := fold_fuse sc p ks h2 s hs (fun y hy j hj => hl y hy j (by simp [hj]))
      refine ⟨r1, fun x => ?_⟩
      rw [r2]
      constructor
      · rintro (h | ⟨j, hj, h⟩)
        · exact .inl h
        · exact .inr ⟨j, by simp [hj], h⟩
      · rintro (h | ⟨j, hj, hpj, rfl⟩)
        · exact .inl h
        · rcases List.mem_cons.1 hj with rfl | hj
          · exact absurd hpj hp
          · exact .inr ⟨j, hj, hpj, rfl⟩
theorem fuse_spec (a b : List Hit) : (fuseL a b).Pairwise (bef (scS a b)) ∧ ∀ x, x ∈ fuseL a b ↔ (1 ≤ x ∧ x ≤ 99) ∧ hasKey a b x = true := by
  have hr : (List.range' 1 99).Pairwise (· < ·) := List.pairwise_lt_range'
  obtain ⟨h1, h2⟩ := fold_fuse (scS a b) (hasKey a b) (List.range' 1 99) hr [] List.Pairwise.nil (by simp)
  refine ⟨h1, fun x => ?_⟩
  have := h2 x
  unfold fuseL
  rw [this]
  constructor
  · rintro (h | ⟨k, hk, hp, rfl⟩)
    · cases h
    · rw [List.mem_range'_1] at hk
      exact ⟨by omega, hp⟩
  · rintro ⟨⟨h3, h4⟩, hp⟩
    obtain ⟨k, rfl⟩ := Int.eq_ofNat_of_zero_le (show 0 ≤ x by omega)
    exact .inr ⟨k, by rw [List.mem_range'_1]; omega, hp, rfl⟩
theorem bef_nodup {sc : Int → Int} {l : List Int} (h : l.Pairwise (bef sc)) : l.Nodup := h.imp fun h e => by
  subst e
  rcases h with h | ⟨_, h⟩ <;> omega
theorem bef_uniq {sc : Int → Int} {l m : List Int} (hl : l.Pairwise (bef sc)) (hm : m.Pairwise (bef sc)) (h : ∀ x, x ∈ l ↔ x ∈ m) : l = m :=
  List.Perm.eq_of_pairwise (le := bef sc) (fun a b _ _ h1 h2 => by rcases h1 with h1 | ⟨h1, h3⟩ <;> rcases h2 with h2 | ⟨h2, h4⟩ <;> omega) hl hm ((List.perm_ext_iff_of_nodup (bef_nodup hl) (bef_nodup hm)).2 h)
theorem fuseL_len (a b : List Hit) : (fuseL a b).length ≤ 99 := by
  obtain ⟨h1, h2⟩ := fuse_spec a b
  have := len_sub (l := fuseL a b) (m := (List.range' 1 99).map fun k : Nat => (k : Int)) (bef_nodup h1) fun x hx => by
    obtain ⟨⟨h3, h4⟩, _⟩ := (h2 x).1 hx
    obtain ⟨k, rfl⟩ := Int.eq_ofNat_of_zero_le (show 0 ≤ x by omega)
    exact List.mem_map.2 ⟨k, by rw [List.mem_range'_1]; omega, rfl⟩
  simpa using this
theorem fuseV_len {a b : List Hit} : (fuseV a b).length ≤ 99 := by
  unfold fuseV
  split
  · exact fuseL_len a b
  · simp
theorem key_in {a : List Hit} (h : okHs a = true) {x : Hit} (hx : x ∈ a) : 1 ≤ x.1 ∧ x.1 ≤ 99 := by
  have := (okHs_iff.1 h).1 x hx
  unfold inH at this; simp at this; omega
theorem posH_isSome {a : List Hit} {k : Int} : (posH a k).isSome = true ↔ ∃ x ∈ a, x.1 = k := by
  cases h : posH a k with
  | none => simp only [Option.isSome_none, Bool.false_eq_true, false_iff]; rintro ⟨x, hx, e⟩; exact posH_none.1 h x hx e
  | some i =>
    obtain ⟨hi, e⟩ := posH_some h
    simp only [Option.isSome_some, true_iff]; exact ⟨_, List.getElem_mem hi, e⟩
theorem hasKey_iff {a b : List Hit} {k : Int} : hasKey a b k = true ↔ (∃ x ∈ a, x.1 = k) ∨ ∃ x ∈ b, x.1 = k := by
  unfold hasKey; rw [Bool.or_eq_true, posH_isSome, posH_isSome]
end Go.Vs

namespace Go.Vs

end Go.Vs

namespace Go.Vs

end Go.Vs

namespace Go.Vs

end Go.Vs

namespace Go.Vs

end Go.Vs

namespace Go.Vs

end Go.Vs

namespace Go.Vs

end Go.Vs

namespace Go.Vs

abbrev OkHl (l : List Hit) : Prop := l.length ≤ 9223372036854775807 ∧ ∀ x ∈ l, (True ∧ True)
theorem szH_ok {l : List Hit} {left : Int} (ha : l.length ≤ 9223372036854775807) (h0 : 0 ≤ left) (h1 : left ≤ 1048576) : ∃ s, M.laws_szHitS l left = some s ∧ (s < 0 ∨ (0 ≤ s ∧ s ≤ left ∧ l.length ≤ 1048576)) := by
  unfold M.laws_szHitS
  have e : w64 (left - (l.length : Int)) = left - (l.length : Int) := w64_id (by omega) (by omega)
  rw [e]
  by_cases h : left - (l.length : Int) < 0
  · exact ⟨-1, by simp [h], .inl (by omega)⟩
  · exact ⟨left - (l.length : Int), by simp [h], .inr ⟨by omega, by omega, by omega⟩⟩
/-- A list that is copied, element by element. -/
theorem copy_run {α : Type} {a : List α} {z : α} {f : List α × Int → Option ((List α × Int) ⊕ List α)}
    (hs : ∀ (s : List α) (i : Nat) (h : i < a.length), s.length = a.length → f (s, (i : Int)) = some (.inl (s.set i a[i], ((i + 1 : Nat) : Int)))) (he : ∀ s : List α, f (s, (a.length : Int)) = some (.inr s)) :
    loopM f (List.replicate a.length z, 0) = some a := by
  have hloop := loop_run (R := List α) (f := f) (r := a) a.length (fun i => (a.take i ++ List.replicate (a.length - i) z, (i : Int))) (by
    intro i hi
    rw [hs _ i hi (by simp; omega)]
    have hr : List.replicate (a.length - i) z = z :: List.replicate (a.length - (i + 1)) z := by
      rw [show a.length - i = (a.length - (i + 1)) + 1 by omega, List.replicate_succ]
    rw [List.take_succ_eq_append_getElem hi, hr, List.set_append_right _ _ (by simp; omega)]
    have : i - (a.take i).length = 0 := by simp; omega
    rw [this]; simp only [List.set_cons_zero, List.append_assoc, List.cons_append, List.nil_append]) (by
    rw [he]; simp only [List.take_length, Nat.sub_self, List.replicate_zero, List.append_nil])
  simpa using hloop
theorem toHitS_ok {a : List Hit} (h : a.length ≤ 1048576) : M.laws_toHitS a = some a := by
  unfold M.laws_toHitS
  rw [gmake_ok (by omega) (by omega), Option.bind_some, Int.toNat_natCast, copy_run]
  · rfl
  · intro s i hi hl
    have e1 : decide ((i : Int) < (a.length : Int)) = true := decide_eq_true (by omega)
    simp only [e1, cond_true, gidx_nat hi, gidx_nat (show i < s.length by omega), Option.bind_some, M.laws_toHit, Int.toNat_natCast, w64_succ (i := i) (by omega)]
  · intro s; simp
end Go.Vs

namespace Go.Vs

theorem iget_map (f : Int → Int) (k : Int) : ∀ L : List Hit, k ∈ L.map (·.1) → iget (L.map fun x => (x.1, f x.1)) k = f k
  | [], h => by simp at h
  | x :: L, h => by
    simp only [List.map_cons]
    unfold iget
    by_cases e : x.1 = k
    · rw [if_pos e, e]
    · rw [if_neg e]
      refine iget_map f k L ?_
      simp only [List.map_cons, List.mem_cons] at h
      rcases h with h | h
      · exact absurd h.symm e
      · exact h
theorem frs_keys (S : List Hit) (k : Int) : k ∈ (frs (isort S)).map (·.1) ↔ ∃ x ∈ S, x.1 = k := by
  obtain ⟨h1, h2⟩ := isort_spec S
  have h := frs_spec (Q := isort S) Frs.nil (by rw [List.nil_append]; exact h1)
  rw [List.nil_append] at h
  change Frs (isort S) (frs (isort S)) at h
  rw [List.mem_map]
  constructor
  · rintro ⟨x, hx, e⟩
    exact ⟨x, h2.mem_iff.1 (h.sub.subset hx), e⟩
  · rintro ⟨x, hx, rfl⟩
    obtain ⟨z, hz, e, _⟩ := h.all x (h2.mem_iff.2 hx)
    exact ⟨z, hz, e⟩
def ltK (sc : Int → Int) (x y : Int) : Bool := decide (sc y < sc x ∨ sc y = sc x ∧ x < y)
theorem ltK_iff {sc : Int → Int} {x y : Int} : ltK sc x y = true ↔ bef sc x y := by unfold ltK bef; simp
theorem sortK_ok {sc : Int → Int} {m : List (Int × Int)} {ks : List Int} (hl : ks.length ≤ 1000000) (hn : ks.Nodup) (hg : ∀ k ∈ ks, iget m k = sc k) :
    ∃ r, M.sortD (fun x y => M.impl_FuseRanks_1__p_map_int_int x y m) ks = some r ∧ (∀ x, x ∈ r ↔ x ∈ ks) ∧ r.Pairwise (bef sc) := by
  have hc : ∀ x ∈ ks, ∀ y ∈ ks, ∃ r, M.impl_FuseRanks_1__p_map_int_int x y m = some r ∧ decide (r < 0) = ltK sc x y := by
    intro x hx y hy
    unfold M.impl_FuseRanks_1__p_map_int_int
    simp only [compare_ok, Option.bind_some, cmpOr_ok, hg x hx, hg y hy]
    refine ⟨_, rfl, ?_⟩
    unfold ltK
    apply decide_eq_decide.2
    by_cases h : cmpI (sc y) (sc x) = 0
    · rw [if_pos h, cmpI_neg]; rw [cmpI_zero] at h; omega
    · rw [if_neg h, cmpI_neg]; rw [cmpI_zero] at h; omega
  have hi : ∀ x ∈ ks, ltK sc x x = false := by
    intro x _; unfold ltK; simp
  have ht : ∀ x ∈ ks, ∀ y ∈ ks, ∀ z ∈ ks, ltK sc x y = true → ltK sc y z = true → ltK sc x z = true := by
    intro x _ y _ z _ h1 h2
    rw [ltK_iff] at *
    unfold bef at *
    omega
  have ht2 : ∀ x ∈ ks, ∀ y ∈ ks, x ≠ y → ltK sc x y = true ∨ ltK sc y x = true := by
    intro x _ y _ hne
    rw [ltK_iff, ltK_iff]
    unfold bef
    omega
  obtain ⟨r, h1, h2, h3⟩ := sortD_ok (cmp := fun x y => M.impl_FuseRanks_1__p_map_int_int x y m) (lt := ltK sc) (xs := ks) hl hc hi ht ht2
  refine ⟨r, h1, fun x => h2.mem_iff, ?_⟩
  have hr : r.Nodup := h2.nodup_iff.2 hn
  refine List.Pairwise.imp ?_ (h3.and hr)
  rintro x y ⟨h, hne⟩
  unfold ltK at h
  rw [decide_eq_false_iff_not] at h
  unfold bef
  by_cases e : sc y < sc x
  · exact .inl e
  · refine .inr ?_
    by_cases e2 : sc x < sc y
    · exact absurd (.inl e2) h
    · have e3 : sc y = sc x := by omega
      refine ⟨e3, ?_⟩
      by_cases e4 : y < x
      · exact absurd (.inr ⟨e3.symm, e4⟩) h
      · omega
theorem implFuse_ok {a b : List Hit} (ha : a.length ≤ 2000000) (hb : b.length ≤ 2000000) : M.impl_FuseRanks a b = some (fuseV a b) := by
  unfold M.impl_FuseRanks fuseV
  simp only [implVH_ok ha, implVH_ok hb, Option.bind_some]
  cases hoa : okHs a with
  | false => simp
  | true =>
    cases hob : okHs b with
    | false => simp
    | true =>
      have hal := (okHs_iff.1 hoa).2.2.2
      have hbl := (okHs_iff.1 hob).2.2.2
      have hkeys := frs_keys (a ++ b)
      have hnd := (frs_BL (S := a ++ b)).1.1
      have hL : (frs (isort (a ++ b))).length ≤ 100000 := by
        have h1 := frs_len (L := isort (a ++ b))
        rw [isort_len, List.length_append] at h1
        omega
      simp only [Bool.not_true, cond_false, Option.bind_some, and_self, if_true, implMerged_ok (show a.length ≤ 100000 by omega) (show b.length ≤ 100000 by omega)]
      generalize frs (isort (a ++ b)) = L at hkeys hnd hL
      have hsum : ∀ k, w64 (rkV a k + rkV b k) = scS a b k := fun k => by
        have va : rkV a k = rkS a k := by unfold rkV; rw [if_pos hoa]
        have vb : rkV b k = rkS b k := by unfold rkV; rw [if_pos hob]
        have h1 := rkS_bound a k
        have h2 := rkS_bound b k
        rw [va, vb, w64_id (by omega) (by omega)]; rfl
      refine fold_bind (xs := L) (fun (s : List (Int × Int)) i => (s, i)) (fun s x => iput s x.1 (scS a b x.1)) (fun i s => s = (L.take i).map fun x => (x.1, scS a b x.1)) (fun s => s) (s0 := []) (by simp) ?_ ?_ ?_
      · rintro s i hi rfl
        have e1 : decide ((i : Int) < (L.length : Int)) = true := decide_eq_true (by omega)
        simp only [e1, cond_true, gidx_nat hi, Option.bind_some, implRank_ok ha, implRank_ok hb, hsum, w64_succ (i := i) (show i < 4000000000000000000 by omega)]
        refine ⟨by first | trivial | rfl, ?_⟩
        rw [iput_none]
        · rw [List.take_succ_eq_append_getElem hi, List.map_append]; rfl
        · intro q hq e
          obtain ⟨x, hx, rfl⟩ := List.mem_map.1 hq
          obtain ⟨j, hj, rfl⟩ := List.mem_iff_getElem.1 hx
          rw [List.length_take] at hj
          rw [List.getElem_take] at e
          have := (List.pairwise_iff_getElem.1 hnd) j i (by simp; omega) (by simpa using hi) (by omega)
          simp only [List.getElem_map] at this
          exact this e
      · intro s _; simp
      · intro hs
        rw [List.take_length] at hs
        rw [hs]
        unfold M.maps_Keys_map_int_int_int_int M.slices_SortedFunc_int__maps_Keys_map_int_int_int_int_1__impl_FuseRanks_1
        have hk : (L.map fun x => (x.1, scS a b x.1)).map (·.1) = L.map (·.1) := by rw [List.map_map]; rfl
        obtain ⟨r, h1, h2, h3⟩ := sortK_ok (sc := scS a b) (m := L.map fun x => (x.1, scS a b x.1)) (ks := L.map (·.1)) (by simpa using Nat.le_trans hL (by omega)) hnd (fun k hk => iget_map (scS a b) k L hk)
        simp only [Option.bind_some, hk, h1]
        congr 1
        obtain ⟨f1, f2⟩ := fuse_spec a b
        refine bef_uniq h3 f1 fun x => ?_
        rw [h2, f2, hkeys, hasKey_iff]
        constructor
        · rintro ⟨y, hy, rfl⟩
          rcases List.mem_append.1 hy with h | h
          · exact ⟨key_in hoa h, .inl ⟨y, h, rfl⟩⟩
          · exact ⟨key_in hob h, .inr ⟨y, h, rfl⟩⟩
        · rintro ⟨_, ⟨y, h, e⟩ | ⟨y, h, e⟩⟩
          · exact ⟨y, List.mem_append_left _ h, e⟩
          · exact ⟨y, List.mem_append_right _ h, e⟩
end Go.Vs

namespace Go.Vs

theorem law_ExactFuseRanks (a b : List Hit) (ha : OkHl a) (hb : OkHl b) : M.laws_FnExactFuseRanks a b = some true := by
  unfold M.laws_FnExactFuseRanks
  obtain ⟨s, es, hs⟩ := szH_ok (left := 1048576) ha.1 (by omega) (by omega)
  simp only [es, Option.bind_some]
  rcases hs with hs | ⟨h0, hq, h1⟩
  · simp [hs]
  have hn : ¬ s < 0 := by omega
  obtain ⟨t, et, ht⟩ := szH_ok (left := s) hb.1 h0 hq
  simp only [hn, decide_false, cond_false, et, Option.bind_some]
  rcases ht with ht | ⟨k0, _, k1⟩
  · simp [ht]
  have hm : ¬ t < 0 := by omega
  have hl := fuseV_len (a := a) (b := b)
  have lm : (fuseV a b).length < 2000000 := by omega
  have hn1 : ¬ (1 + 2 * (a.length : Int) + 2 * (b.length : Int)) < 0 := by omega
  have hn2 : ¬ (1 + ((fuseV a b).length : Int)) < 0 := by omega
  simp only [hm, decide_false, cond_false, toHitS_ok h1, toHitS_ok k1, Option.bind_some, specFuse_ok (show a.length ≤ 2000000 by omega) (show b.length ≤ 2000000 by omega), implFuse_ok (show a.length ≤ 2000000 by omega) (show b.length ≤ 2000000 by omega), bne_self_eq_false, eqHitS_self (show a.length < 2000000 by omega), eqHitS_self (show b.length < 2000000 by omega), eqIntS_ok lm, decide_true, Bool.not_true, markHitS_ok (show a.length < 2000000 by omega) one0 one1, markHitS_ok (k := 1 + 2 * (a.length : Int)) (show b.length < 2000000 by omega) (by omega) (by omega), hn1, markIntS_ok lm one0 one1, heldIntS_ok lm one0 one1, hn2]
end Go.Vs
