/- Plain facts of what the functions compute. -/
import Derived.Test.YtgokepoinohioacExactGetItemEng1
import Derived.Test.YtgokepoinohioacExactGetItemLib1
set_option linter.unusedVariables false
set_option linter.unusedSimpArgs false
namespace Go.Vs

theorem loop_run {S R : Type} {f : S → Option (S ⊕ R)} {r : R} (k : Nat) (st : Nat → S) (hs : ∀ i, i < k → f (st i) = some (.inl (st (i + 1)))) (he : f (st k) = some (.inr r)) : loopM f (st 0) = some r := by
  induction k generalizing st with
  | zero => rw [loopM_eq, he]; rfl
  | succ k ih =>
    rw [loopM_eq, hs 0 (by omega)]
    exact ih (fun i => st (i + 1)) (fun i hi => hs (i + 1) (by omega)) he

theorem w64_nat {n : Nat} (h : n < 9223372036854775808) : w64 (n : Int) = n := w64_id (by omega) (by omega)
theorem gidx_nat {α : Type} {xs : List α} {i : Nat} (h : i < xs.length) : gidx xs (i : Int) = some xs[i] := by
  unfold gidx
  rw [if_pos (by omega)]
  simp [h]
theorem gapp_ok {α : Type} {xs ys : List α} (h : xs.length + ys.length ≤ 2147483648) : gapp xs ys = some (xs ++ ys) := by unfold gapp; rw [if_pos h]
theorem gmake_ok {α : Type} {k : Int} {z : α} (h0 : 0 ≤ k) (h1 : k ≤ 2147483648) : gmake k z = some (List.replicate k.toNat z) := by unfold gmake; rw [if_pos ⟨h0, h1⟩]
/-- A loop that looks at each element, and leaves at the first that fails. -/
theorem loop_all {α R : Type} {xs : List α} {P : α → Bool} {r : R} {f : Int → Option (Int ⊕ (Unit ⊕ R))} (hs : ∀ i (h : i < xs.length), f (i : Int) = some (if P xs[i] then .inl ((i : Int) + 1) else .inr (.inr r))) (he : f (xs.length : Int) = some (.inr (.inl ()))) :
    loopM f 0 = some (if xs.all P then .inl () else .inr r) := by
  have key : ∀ m k : Nat, k + m = xs.length → loopM f (k : Int) = some (if (xs.drop k).all P then .inl () else .inr r) := by
    intro m
    induction m with
    | zero =>
      intro k hk
      have : k = xs.length := by omega
      subst this
      rw [loopM_eq, he]; simp [selim]
    | succ m ih =>
      intro k hk
      have hlt : k < xs.length := by omega
      rw [loopM_eq, hs k hlt, List.drop_eq_getElem_cons hlt]
      by_cases hp : P xs[k] = true
      · rw [if_pos hp]
        have := ih (k + 1) (by omega)
        simp only [Int.natCast_add, Int.cast_ofNat_Int] at this
        simp only [List.all_cons, hp, Bool.true_and, selim, this, Option.bind_some]
      · rw [if_neg hp]
        simp only [List.all_cons, Bool.not_eq_true] at hp ⊢
        simp only [hp, Bool.false_and, selim, Option.bind_some]; rfl
  have := key xs.length 0 (by omega)
  simpa using this
end Go.Vs

namespace Go.Vs

/-- A reader that has been asked at most k times. -/
def Good (k : Nat) (r : List UInt8 × Int) : Prop := r.1.length ≤ 2000 ∧ 0 ≤ r.2 ∧ r.2 ≤ k
theorem Good.mono {k m : Nat} {r : List UInt8 × Int} (h : Good k r) (hm : k ≤ m) : Good m r := ⟨h.1, h.2.1, by have := h.2.2; omega⟩

/-- A valid vector. -/
def isVec (v : List Int) : Bool := decide (v.length = 4) && v.all fun x => decide (-100 ≤ x) && decide (x ≤ 100)
theorem isVec_iff {v : List Int} : isVec v = true ↔ v.length = 4 ∧ ∀ x ∈ v, -100 ≤ x ∧ x ≤ 100 := by
  unfold isVec; simp
end Go.Vs
namespace Go.Vs
/-- A vector that may be drawn. -/
def Near (v : List Int) : Prop := v.length ≤ 5 ∧ ∀ x ∈ v, -101 ≤ x ∧ x ≤ 101
theorem copy_ok {v : List Int} (h : v.length ≤ 1000000) : M.spec_copyInts v = some v := by
  unfold M.spec_copyInts
  rw [gapp_ok (by simp; omega)]; rfl
theorem implCoords_ok (v : List Int) (hb : v.length < 2000000) : M.impl_validCoords v = some (v.all fun x => decide (-100 ≤ x) && decide (x ≤ 100)) := by
  unfold M.impl_validCoords
  rw [loop_all (xs := v) (P := fun x => decide (-100 ≤ x) && decide (x ≤ 100)) (r := false)]
  · by_cases ha : (v.all fun x => decide (-100 ≤ x) && decide (x ≤ 100)) = true
    · simp only [ha, if_true, Option.bind_some, selim]
    · simp only [Bool.not_eq_true] at ha
      simp only [ha]; simp [selim]
  · intro i h
    have e1 : decide ((i : Int) < (v.length : Int)) = true := by simpa using h
    have e2 : w64 ((i : Int) + 1) = (i : Int) + 1 := w64_id (by omega) (by omega)
    simp only [e1, cond_true, gidx_nat h, Option.bind_some, e2]
    by_cases c1 : v[i] < -100
    · have c2 : ¬ (-100 ≤ v[i]) := by omega
      simp [c1, c2]
    · by_cases c3 : 100 < v[i]
      · have c4 : ¬ (v[i] ≤ 100) := by omega
        simp [c1, c3, c4]
      · simp [c1, c3, show -100 ≤ v[i] by omega, show v[i] ≤ 100 by omega]
  · simp
theorem impl_valid (v : List Int) (hb : v.length < 2000000) : M.impl_ValidVector v = some (isVec v) := by
  unfold M.impl_ValidVector
  simp only [implCoords_ok v hb, Option.bind_some]
  unfold isVec
  by_cases hl : v.length = 4
  · have e : ((v.length : Int) == 4) = true := by simp; omega
    rw [e, cond_true, decide_eq_true hl, Bool.true_and]
  · have e : ((v.length : Int) == 4) = false := by simp; omega
    rw [e, cond_false, decide_eq_false hl, Bool.false_and]
theorem spec_inR (n l h : Int) : M.spec_inRange n l h = some (decide (l ≤ n) && decide (n ≤ h)) := by
  unfold M.spec_inRange
  by_cases h1 : l ≤ n <;> simp [h1]
theorem spec_all (v : List Int) (l h : Int) (hb : v.length < 2000000) : M.spec_allIn v l h = some (v.all fun x => decide (l ≤ x) && decide (x ≤ h)) := by
  unfold M.spec_allIn
  rw [loop_all (xs := v) (P := fun x => decide (l ≤ x) && decide (x ≤ h)) (r := false)]
  · by_cases ha : (v.all fun x => decide (l ≤ x) && decide (x ≤ h)) = true
    · simp only [ha, if_true, Option.bind_some, selim]
    · simp only [Bool.not_eq_true] at ha
      simp [ha, selim]
  · intro i hi
    have e1 : decide ((i : Int) < (v.length : Int)) = true := by simpa using hi
    have e2 : w64 ((i : Int) + 1) = (i : Int) + 1 := w64_id (by omega) (by omega)
    simp only [e1, cond_true, gidx_nat hi, Option.bind_some, e2, spec_inR]
    cases (decide (l ≤ v[i]) && decide (v[i] ≤ h)) <;> rfl
  · simp
theorem spec_isVec (v : List Int) (hb : v.length < 2000000) : M.spec_isVector v = some (isVec v) := by
  unfold M.spec_isVector
  by_cases hl : v.length = 4
  · have e : ((v.length : Int) == 4) = true := by simp; omega
    simp [e, spec_all v _ _ hb, isVec, hl]
  · have e : ((v.length : Int) == 4) = false := by simp; omega
    simp [e, isVec, hl]
end Go.Vs

namespace Go.Vs

end Go.Vs

namespace Go.Vs

end Go.Vs

namespace Go.Vs

theorem equalInts_ok {a b : List Int} (ha : a.length < 2000000) : M.laws_equalInts a b = some (decide (a = b)) := by
  unfold M.laws_equalInts
  by_cases hl : a.length = b.length
  · have e : ((a.length : Int) != (b.length : Int)) = false := by simp; omega
    simp only [e, cond_false]
    rw [loop_all (xs := a.zip b) (P := fun p => p.1 == p.2) (r := false)]
    · by_cases h : a = b
      · subst h
        have : (a.zip a).all (fun p => p.1 == p.2) = true := by
          rw [List.all_eq_true]; intro p hp
          obtain ⟨i, hi, rfl⟩ := List.mem_iff_getElem.1 hp
          simp
        rw [if_pos this]; simp [selim]
      · have : ¬ (a.zip b).all (fun p => p.1 == p.2) = true := by
          intro hh; apply h
          apply List.ext_getElem hl
          intro i h1 h2
          rw [List.all_eq_true] at hh
          have := hh (a[i], b[i]) (List.mem_iff_getElem.2 ⟨i, by simp; omega, by simp⟩)
          simpa using this
        rw [if_neg this]; simp [selim, h]
    · intro i hi
      have hi1 : i < a.length := by simp at hi; omega
      have hi2 : i < b.length := by simp at hi; omega
      have e1 : decide ((i : Int) < (a.length : Int)) = true := by simpa using hi1
      have e2 : w64 ((i : Int) + 1) = (i : Int) + 1 := w64_id (by omega) (by omega)
      simp only [e1, cond_true, gidx_nat hi1, gidx_nat hi2, Option.bind_some, e2, List.getElem_zip]
      by_cases hc : a[i] = b[i]
      · simp [hc]
      · have hb : (a[i] == b[i]) = false := by simpa using hc
        have hb' : (a[i] != b[i]) = true := by simpa using hc
        simp [hb, hb']
    · have : (a.zip b).length = a.length := by simp; omega
      rw [this]; simp
  · have e : ((a.length : Int) != (b.length : Int)) = true := by simp; omega
    have : a ≠ b := fun h => hl (by rw [h])
    simp [e, this]

/-- Gaps of two vectors. -/
structure Gaps (g0 g1 g2 g3 : Int) : Prop where
  n0 : 0 ≤ g0
  n1 : 0 ≤ g1
  n2 : 0 ≤ g2
  n3 : 0 ≤ g3
  m0 : g0 ≤ 200
  m1 : g1 ≤ 200
  m2 : g2 ≤ 200
  m3 : g3 ≤ 200
end Go.Vs

namespace Go.Vs

end Go.Vs

namespace Go.Vs

end Go.Vs

namespace Go.Vs

end Go.Vs

namespace Go.Vs

end Go.Vs

namespace Go.Vs

theorem toIntS_ok {a : List Int} (h : a.length ≤ 1048576) : M.laws_toIntS a = some a := by
  unfold M.laws_toIntS
  rw [gmake_ok (by omega) (by omega)]
  simp only [Option.bind_some, Int.toNat_natCast]
  have hloop := loop_run (R := List Int) (f := fun (s10 : (List Int) × (Int)) => (bif decide (s10.2 < (a.length : Int)) then
  (gidx a s10.2).bind fun x18 =>
  (gidx s10.1 s10.2).bind fun x23 =>
  some (.inl ((s10.1.set s10.2.toNat x18), w64 (s10.2 + 1)))
 else
  some (.inr s10.1))) (r := a) a.length (fun i => (a.take i ++ List.replicate (a.length - i) 0, (i : Int))) (by
    intro i hi
    have e1 : decide ((i : Int) < (a.length : Int)) = true := by simpa using hi
    have e2 : w64 ((i : Int) + 1) = ((i + 1 : Nat) : Int) := w64_id (by omega) (by omega)
    have hl : i < (a.take i ++ List.replicate (a.length - i) (0 : Int)).length := by simp; omega
    simp only [e1, cond_true, gidx_nat hi, gidx_nat hl, Option.bind_some, e2, Int.toNat_natCast, Option.some.injEq, Sum.inl.injEq, Prod.mk.injEq, and_true]
    rw [List.take_succ_eq_append_getElem hi]
    have hr : List.replicate (a.length - i) (0 : Int) = 0 :: List.replicate (a.length - (i + 1)) 0 := by
      rw [show a.length - i = (a.length - (i + 1)) + 1 by omega, List.replicate_succ]
    rw [hr, List.set_append_right _ _ (by simp; omega)]
    have : i - (a.take i).length = 0 := by simp; omega
    rw [this]; simp only [List.set_cons_zero, List.append_assoc, List.cons_append, List.nil_append]) (by
    have e1 : decide (((a.length : Nat) : Int) < (a.length : Int)) = false := by simp
    simp only [e1, cond_false, List.take_length, Nat.sub_self, List.replicate_zero, List.append_nil])
  simp only [List.take_zero, List.nil_append, Nat.sub_zero, Int.cast_ofNat_Int] at hloop
  rw [hloop]; rfl
theorem eqIntS_ok {a b : List Int} (ha : a.length < 2000000) : M.laws_eqIntS a b = some (decide (a = b)) := equalInts_ok ha

end Go.Vs

namespace Go.Vs

end Go.Vs

namespace Go.Vs

abbrev Item := Int × (List Int) × Int
/-- A valid item. -/
def isItem (x : Item) : Bool := (decide (1 ≤ x.1) && decide (x.1 ≤ 99)) && (isVec x.2.1 && (decide (0 ≤ x.2.2) && decide (x.2.2 ≤ 15)))
/-- Valid items, with ascending keys above p. -/
def okFrom : Int → List Item → Bool
  | _, [] => true
  | p, x :: l => (isItem x && decide (p < x.1)) && okFrom x.1 l
def okStore (l : List Item) : Bool := decide (l.length ≤ 16) && okFrom 0 l

theorem implItem_ok {x : Item} (h : x.2.1.length < 2000000) : M.impl_validItem (x.1, x.2.1, x.2.2) = some (isItem x) := by
  unfold M.impl_validItem M.impl_validKey M.impl_validTags isItem
  simp only [impl_valid x.2.1 h, Option.bind_some]
  by_cases h1 : 1 ≤ x.1
  · by_cases h2 : x.1 ≤ 99
    · by_cases h3 : isVec x.2.1 = true
      · by_cases h4 : 0 ≤ x.2.2
        · simp [h1, h2, h3, h4]
        · simp [h1, h2, h3, h4]
      · simp only [Bool.not_eq_true] at h3
        simp [h1, h2, h3]
    · simp [h1, h2]
  · simp [h1]
theorem specItem_ok {x : Item} (h : x.2.1.length < 2000000) : M.spec_validItem (x.1, x.2.1, x.2.2) = some (isItem x) := by
  unfold M.spec_validItem isItem
  simp only [spec_inR, spec_isVec x.2.1 h, Option.bind_some]
  cases (decide (1 ≤ x.1) && decide (x.1 ≤ 99)) <;> cases isVec x.2.1 <;> simp

theorem implStore_ok {l : List Item} (hb : ∀ x ∈ l, x.2.1.length < 2000000) : M.impl_ValidStore l = some (okStore l) := by
  unfold M.impl_ValidStore okStore
  by_cases hl : 16 < (l.length : Int)
  · have : ¬ l.length ≤ 16 := by omega
    simp [hl, this]
  have hl' : l.length ≤ 16 := by omega
  simp only [hl, decide_false, cond_false, hl', decide_true, Bool.true_and]
  have key : ∀ m k : Nat, ∀ p : Int, k + m = l.length → loopM (fun (s3 : (Int) × (Int)) => (bif decide (s3.2 < (l.length : Int)) then
  (gidx l s3.2).bind fun x8 =>
  Option.bind ((M.impl_validItem (x8.1, x8.2.1, x8.2.2)).bind fun r30 =>
  (bif !r30 then
  some true
 else
  some (decide (x8.1 ≤ s3.1)))) fun o29 =>
  (bif o29 then
  some (.inr (.inr false))
 else
  some (.inl (x8.1, w64 (s3.2 + 1))))
 else
  some (.inr (.inl ())))) (p, (k : Int)) = some (if okFrom p (l.drop k) then (.inl () : Unit ⊕ Bool) else .inr false) := by
    intro m
    induction m with
    | zero =>
      intro k p hk
      have : k = l.length := by omega
      subst this
      rw [loopM_eq]; simp [selim, okFrom]
    | succ m ih =>
      intro k p hk
      have hlt : k < l.length := by omega
      rw [loopM_eq, List.drop_eq_getElem_cons hlt]
      have e1 : decide ((k : Int) < (l.length : Int)) = true := by simpa using hlt
      have e2 : w64 ((k : Int) + 1) = ((k + 1 : Nat) : Int) := w64_id (by omega) (by omega)
      simp only [e1, cond_true, gidx_nat hlt, Option.bind_some, implItem_ok (hb _ (List.getElem_mem hlt)), e2, okFrom]
      by_cases h1 : isItem l[k] = true
      · by_cases h2 : p < l[k].1
        · have h2' : ¬ l[k].1 ≤ p := by omega
          simp only [h1, h2, h2', Bool.not_true, cond_false, Option.bind_some, decide_false, decide_true, Bool.and_self, Bool.true_and, selim]
          exact ih (k + 1) l[k].1 (by omega)
        · have h2' : l[k].1 ≤ p := by omega
          simp [h1, h2, h2', selim]
      · simp only [Bool.not_eq_true] at h1
        simp [h1, selim]
  have := key l.length 0 0 (by omega)
  simp only [Int.cast_ofNat_Int, List.drop_zero] at this
  rw [this]
  cases okFrom 0 l <;> rfl

/-- The key before a place. -/
def keyBefore (l : List Item) : Nat → Int
  | 0 => 0
  | k + 1 => (l.getD k (0, [], 0)).1
theorem specStore_ok {l : List Item} (hb : ∀ x ∈ l, x.2.1.length < 2000000) (hL : l.length < 2000000) : M.spec_validStore l = some (okStore l) := by
  unfold M.spec_validStore okStore
  have key : ∀ m k : Nat, k + m = l.length → loopM (fun (s2 : (Int)) => (bif decide (s2 < (l.length : Int)) then
  Option.bind ((gidx l s2).bind fun x8 =>
  (M.spec_validItem (x8.1, x8.2.1, x8.2.2)).bind fun r19 =>
  (bif !r19 then
  some true
 else
  (bif decide (0 < s2) then
  (gidx l s2).bind fun x24 =>
  (gidx l (w64 (s2 - 1))).bind fun x29 =>
  some (decide (x24.1 ≤ x29.1))
 else
  some false))) fun o7 =>
  (bif o7 then
  some (.inr (.inr false))
 else
  some (.inl (w64 (s2 + 1))))
 else
  some (.inr (.inl ())))) (k : Int) = some (if okFrom (keyBefore l k) (l.drop k) then (.inl () : Unit ⊕ Bool) else .inr false) := by
    intro m
    induction m with
    | zero =>
      intro k hk
      have : k = l.length := by omega
      subst this
      rw [loopM_eq]; simp [selim, okFrom]
    | succ m ih =>
      intro k hk
      have hlt : k < l.length := by omega
      rw [loopM_eq, List.drop_eq_getElem_cons hlt]
      have e1 : decide ((k : Int) < (l.length : Int)) = true := by simpa using hlt
      have e2 : w64 ((k : Int) + 1) = ((k + 1 : Nat) : Int) := w64_id (by omega) (by omega)
      have hnext : keyBefore l (k + 1) = l[k].1 := by simp [keyBefore, List.getD, hlt]
      have ih' := ih (k + 1) (by omega)
      rw [hnext] at ih'
      simp only [e1, cond_true, gidx_nat hlt, Option.bind_some, specItem_ok (hb _ (List.getElem_mem hlt)), e2, okFrom]
      by_cases h1 : isItem l[k] = true
      · simp only [h1, Bool.not_true, cond_false, Bool.true_and]
        match k, hlt with
        | 0, hlt =>
          have hpos : keyBefore l 0 < l[0].1 := by
            have : 1 ≤ l[0].1 := by
              unfold isItem at h1; simp at h1; exact h1.1.1
            show 0 < _; omega
          have e3 : decide ((0 : Int) < ((0 : Nat) : Int)) = false := rfl
          simp only [e3, cond_false, Option.bind_some, hpos, decide_true, Bool.true_and, selim]
          exact ih'
        | j + 1, hlt =>
          have e3 : decide ((0 : Int) < ((j + 1 : Nat) : Int)) = true := by simp
          have e4 : w64 (((j + 1 : Nat) : Int) - 1) = (j : Int) := by rw [w64_id (by omega) (by omega)]; omega
          have hj : j < l.length := by omega
          have hk : keyBefore l (j + 1) = l[j].1 := by simp [keyBefore, List.getD, hj]
          simp only [e3, cond_true, e4, gidx_nat hj, Option.bind_some, hk]
          by_cases h2 : l[j].1 < l[j + 1].1
          · have h2' : ¬ l[j + 1].1 ≤ l[j].1 := by omega
            simp only [h2, h2', decide_false, decide_true, cond_false, Bool.true_and, selim, Option.bind_some]
            exact ih'
          · have h2' : l[j + 1].1 ≤ l[j].1 := by omega
            simp [h2, h2', selim]
      · simp only [Bool.not_eq_true] at h1
        simp [h1, selim]
  have := key l.length 0 (by omega)
  simp only [Int.cast_ofNat_Int, List.drop_zero] at this
  rw [this]
  show _ = some (decide (l.length ≤ 16) && okFrom 0 l)
  have e : keyBefore l 0 = 0 := rfl
  rw [e]
  by_cases h16 : l.length ≤ 16
  · have : decide ((l.length : Int) ≤ 16) = true := by simp; omega
    cases okFrom 0 l <;> simp [selim, this, h16]
  · have : decide ((l.length : Int) ≤ 16) = false := by simp; omega
    cases okFrom 0 l <;> simp [selim, this, h16]
end Go.Vs

namespace Go.Vs

theorem szIntS_ok {a : List Int} {left : Int} (ha : a.length ≤ 9223372036854775807) (h0 : 0 ≤ left) (h1 : left ≤ 1048576) :
    ∃ s, M.laws_szIntS a left = some s ∧ (s < 0 ∨ (0 ≤ s ∧ s ≤ left ∧ a.length ≤ 1048576)) := by
  unfold M.laws_szIntS
  rw [w64_id (by omega) (by omega)]
  by_cases h : left - (a.length : Int) < 0
  · exact ⟨-1, by simp [h], .inl (by omega)⟩
  · exact ⟨left - a.length, by simp [h], .inr (by omega)⟩
theorem szItem_ok {x : Item} {left : Int} (ha : x.2.1.length ≤ 9223372036854775807) (h0 : 0 ≤ left) (h1 : left ≤ 1048576) :
    ∃ s, M.laws_szItem x left = some s ∧ (s < 0 ∨ (0 ≤ s ∧ s ≤ left ∧ x.2.1.length ≤ 1048576)) := by
  obtain ⟨s, e, h⟩ := szIntS_ok ha h0 h1
  unfold M.laws_szItem
  simp only [e, Option.bind_some]
  by_cases c : s < 0
  · exact ⟨-1, by simp [c], .inl (by omega)⟩
  · exact ⟨s, by simp [c], h⟩
theorem szItemS_ok {a : List Item} {left : Int} (ha : a.length ≤ 9223372036854775807) (hx : ∀ x ∈ a, x.2.1.length ≤ 9223372036854775807) (h0 : 0 ≤ left) (h1 : left ≤ 1048576) :
    ∃ s, M.laws_szItemS a left = some s ∧ (s < 0 ∨ (0 ≤ s ∧ a.length ≤ 1048576 ∧ ∀ x ∈ a, x.2.1.length ≤ 1048576)) := by
  unfold M.laws_szItemS
  rw [w64_id (by omega) (by omega)]
  by_cases h : left - (a.length : Int) < 0
  · exact ⟨-1, by simp [h], .inl (by omega)⟩
  simp only [h, decide_false, cond_false]
  have hl : a.length ≤ 1048576 := by omega
  have key : ∀ m k : Nat, ∀ l : Int, k + m = a.length → 0 ≤ l → l ≤ 1048576 → ∃ r : Int ⊕ Int, loopM (fun (s3 : (Int) × (Int)) => (bif decide (s3.2 < (a.length : Int)) then
  (gidx a s3.2).bind fun x8 =>
  (M.laws_szItem (x8.1, x8.2.1, x8.2.2) s3.1).bind fun r19 =>
  (bif decide (r19 < 0) then
  some (.inr (.inr (-1)))
 else
  some (.inl (r19, w64 (s3.2 + 1))))
 else
  some (.inr (.inl s3.1)))) (l, (k : Int)) = some r ∧ (r = .inr (-1) ∨ ∃ l', r = .inl l' ∧ 0 ≤ l' ∧ ∀ x ∈ a.drop k, x.2.1.length ≤ 1048576) := by
    intro m
    induction m with
    | zero =>
      intro k l hk hl0 _
      have : k = a.length := by omega
      subst this
      refine ⟨.inl l, ?_, .inr ⟨l, rfl, hl0, by simp⟩⟩
      rw [loopM_eq]; simp [selim]
    | succ m ih =>
      intro k l hk hl0 hl1
      have hlt : k < a.length := by omega
      have e1 : decide ((k : Int) < (a.length : Int)) = true := by simpa using hlt
      have e2 : w64 ((k : Int) + 1) = ((k + 1 : Nat) : Int) := w64_id (by omega) (by omega)
      obtain ⟨s, es, hs⟩ := szItem_ok (x := a[k]) (hx _ (List.getElem_mem hlt)) hl0 hl1
      have es' : M.laws_szItem (a[k].1, a[k].2.1, a[k].2.2) l = some s := es
      rw [loopM_eq]
      simp only [e1, cond_true, gidx_nat hlt, Option.bind_some, es', e2]
      rcases hs with hs | ⟨hs0, hs1, hs2⟩
      · exact ⟨.inr (-1), by simp [hs, selim], .inl rfl⟩
      · obtain ⟨r, hr, hr'⟩ := ih (k + 1) s (by omega) hs0 (by omega)
        refine ⟨r, ?_, ?_⟩
        · have : ¬ s < 0 := by omega
          simp only [this, decide_false, cond_false, selim, Option.bind_some]
          exact hr
        · rcases hr' with hr' | ⟨l', e, h0', hall⟩
          · exact .inl hr'
          · refine .inr ⟨l', e, h0', ?_⟩
            rw [List.drop_eq_getElem_cons hlt]
            intro x hx'
            rcases List.mem_cons.1 hx' with h | h
            · subst h; exact hs2
            · exact hall x h
  obtain ⟨r, hr, hr'⟩ := key a.length 0 (left - a.length) (by omega) (by omega) (by omega)
  simp only [Int.cast_ofNat_Int] at hr
  rw [hr]
  rcases hr' with rfl | ⟨l', rfl, h0', hall⟩
  · exact ⟨-1, rfl, .inl (by omega)⟩
  · exact ⟨l', rfl, .inr ⟨h0', hl, by simpa using hall⟩⟩

theorem eqItem_self {x : Item} (h : x.2.1.length < 2000000) : M.laws_eqItem (x.1, x.2.1, x.2.2) (x.1, x.2.1, x.2.2) = some true := by
  unfold M.laws_eqItem
  simp only [bne_self_eq_false, cond_false, eqIntS_ok h, decide_true, Bool.not_true, Option.bind_some]
theorem eqItemS_self {a : List Item} (h : a.length < 2000000) (hx : ∀ x ∈ a, x.2.1.length < 2000000) : M.laws_eqItemS a a = some true := by
  unfold M.laws_eqItemS
  simp only [bne_self_eq_false, cond_false]
  rw [loop_all (xs := a) (P := fun _ => true) (r := false)]
  · simp [selim]
  · intro i hi
    have e1 : decide ((i : Int) < (a.length : Int)) = true := by simpa using hi
    have e2 : w64 ((i : Int) + 1) = (i : Int) + 1 := w64_id (by omega) (by omega)
    simp only [e1, cond_true, gidx_nat hi, Option.bind_some, eqItem_self (hx _ (List.getElem_mem hi)), Bool.not_true, cond_false, e2, if_true]
  · simp

end Go.Vs

namespace Go.Vs

theorem w64_succ {i : Nat} (h : i < 4000000000000000000) : w64 ((i : Int) + 1) = ((i + 1 : Nat) : Int) := w64_id (by omega) (by omega)

section
variable {α S T R U : Type} {xs : List α}
/-- A loop that comes to r, by what holds at each round and what gets less. -/
theorem loop_to {f : T → Option (T ⊕ R)} (J : T → Prop) (μ : T → Nat) {r : R} (step : ∀ s, J s → (∃ s', f s = some (.inl s') ∧ J s' ∧ μ s' < μ s) ∨ f s = some (.inr r)) {s : T} (h : J s) : loopM f s = some r := by
  obtain ⟨r', h1, rfl⟩ := loopM_ind (f := f) J μ (fun x => x = r) (fun s hs => (step s hs).imp id (fun h => ⟨r, h, rfl⟩)) s h
  exact h1
/-- The first element that is so. -/
theorem loop_first (p : α → Bool) (r : Nat → R) {f : Int → Option (Int ⊕ (Unit ⊕ R))}
    (hs : ∀ i (h : i < xs.length), f (i : Int) = some (if p xs[i] = true then .inr (.inr (r i)) else .inl ((i + 1 : Nat) : Int))) (he : f (xs.length : Int) = some (.inr (.inl ()))) :
    loopM f 0 = some (match xs.findIdx? p with | some i => .inr (r i) | none => .inl ()) := by
  have key : ∀ m k : Nat, k + m = xs.length → loopM f (k : Int) = some (match (xs.drop k).findIdx? p with | some i => .inr (r (k + i)) | none => .inl ()) := by
    intro m
    induction m with
    | zero =>
      intro k hk
      have : k = xs.length := by omega
      subst this
      rw [loopM_eq, he]; simp [selim]
    | succ m ih =>
      intro k hk
      have hlt : k < xs.length := by omega
      rw [loopM_eq, hs k hlt, List.drop_eq_getElem_cons hlt, List.findIdx?_cons]
      by_cases hp : p xs[k] = true
      · simp [hp, selim]
      · simp only [hp, if_false, selim, Option.bind_some, Bool.false_eq_true]
        rw [ih (k + 1) (by omega)]
        cases h : List.findIdx? p (List.drop (k + 1) xs) with
        | none => rfl
        | some i => simp only [Option.map_some]; rw [show k + 1 + i = k + (i + 1) by omega]
  have := key xs.length 0 (by omega)
  simpa using this
end

/-! ## Valid stores as lists that ascend -/
theorem okFrom_iff {l : List Item} : ∀ {p : Int}, okFrom p l = true ↔ (∀ x ∈ l, isItem x = true ∧ p < x.1) ∧ l.Pairwise (fun x y => x.1 < y.1) := by
  induction l with
  | nil => intro p; simp [okFrom]
  | cons x l ih =>
    intro p
    simp only [okFrom, Bool.and_eq_true, decide_eq_true_eq, ih, List.pairwise_cons, List.mem_cons, forall_eq_or_imp]
    constructor
    · rintro ⟨⟨h1, h2⟩, h3, h4⟩
      exact ⟨⟨⟨h1, h2⟩, fun y hy => ⟨(h3 y hy).1, by have := (h3 y hy).2; omega⟩⟩, fun y hy => (h3 y hy).2, h4⟩
    · rintro ⟨⟨⟨h1, h2⟩, h3⟩, h4, h5⟩
      exact ⟨⟨h1, h2⟩, fun y hy => ⟨(h3 y hy).1, h4 y hy⟩, h5⟩
theorem isItem_iff {x : Item} : isItem x = true ↔ (1 ≤ x.1 ∧ x.1 ≤ 99) ∧ isVec x.2.1 = true ∧ 0 ≤ x.2.2 ∧ x.2.2 ≤ 15 := by
  unfold isItem; simp only [Bool.and_eq_true, decide_eq_true_eq]
theorem okStore_iff {l : List Item} : okStore l = true ↔ l.length ≤ 16 ∧ (∀ x ∈ l, isItem x = true) ∧ l.Pairwise (fun x y => x.1 < y.1) := by
  unfold okStore
  simp only [Bool.and_eq_true, decide_eq_true_eq, okFrom_iff]
  constructor
  · rintro ⟨h1, h2, h3⟩; exact ⟨h1, fun x hx => (h2 x hx).1, h3⟩
  · rintro ⟨h1, h2, h3⟩; exact ⟨h1, fun x hx => ⟨h2 x hx, by have := (isItem_iff.1 (h2 x hx)).1.1; omega⟩, h3⟩
theorem isItem_len {x : Item} (h : isItem x = true) : x.2.1.length = 4 := (isVec_iff.1 (isItem_iff.1 h).2.1).1

/-- A list of items that is small enough to be looked at. -/
def SmallS (l : List Item) : Prop := l.length ≤ 1048576 ∧ ∀ x ∈ l, x.2.1.length ≤ 1048576
theorem SmallS.hb {l : List Item} (h : SmallS l) : ∀ x ∈ l, x.2.1.length < 2000000 := fun x hx => by have := h.2 x hx; omega
theorem SmallS.hL {l : List Item} (h : SmallS l) : l.length < 2000000 := by have := h.1; omega
theorem SmallS.impl {l : List Item} (h : SmallS l) : M.impl_ValidStore l = some (okStore l) := implStore_ok h.hb
theorem SmallS.specv {l : List Item} (h : SmallS l) : M.spec_validStore l = some (okStore l) := specStore_ok h.hb h.hL
/-! ## Putting -/
theorem copyItem_spec {x : Item} (h : x.2.1.length ≤ 1000000) : M.spec_copyItem (x.1, x.2.1, x.2.2) = some x := by
  unfold M.spec_copyItem; simp only [copy_ok h, Option.bind_some]
/-! ## Draws -/
/-- An item that may be drawn. -/
def NearI (x : Item) : Prop := (0 ≤ x.1 ∧ x.1 ≤ 100) ∧ Near x.2.1 ∧ -1 ≤ x.2.2 ∧ x.2.2 ≤ 16
end Go.Vs

namespace Go.Vs

theorem wk_i64 (n : Int) : wk .i64 n = w64 n := rfl
theorem wk_u64 {n : Int} (h0 : 0 ≤ n) (h : n < 18446744073709551616) : wk .u64 n = n := by
  simp only [wk, Go.IntKind.wrap, Go.IntKind.bits, Go.IntKind.signed, Bool.false_and]
  have e1 : ((2 : Int) ^ (64 : Nat)) = 18446744073709551616 := by decide
  rw [e1]
  simp; omega
theorem mid_ok {i j : Nat} (hi : i ≤ j) (hj : j < 1000000000) : wk .i64 (gshr .u64 (wk .u64 (w64 ((i : Int) + (j : Int)))) 1) = (((i + j) / 2 : Nat) : Int) := by
  rw [w64_id (by omega) (by omega), wk_u64 (by omega) (by omega), wk_i64]
  have : gshr .u64 ((i : Int) + (j : Int)) 1 = ((i + j) / 2 : Nat) := by
    unfold gshr
    have e : (2 : Int) ^ (min (1 : Int).toNat (Go.IntKind.bits .u64)) = 2 := by decide
    rw [e, Int.fdiv_eq_ediv_of_nonneg _ (by omega)]
    omega
  rw [this, w64_nat (by omega)]
def cmpI (x y : Int) : Int := if x < y then -1 else if y < x then 1 else 0
theorem compare_ok (x y : Int) : M.cmp_Compare_int x y = some (cmpI x y) := by
  unfold M.cmp_Compare_int M.cmp_isNaN_int cmpI
  simp only [bne_self_eq_false, Option.bind_some, cond_false]
  by_cases h1 : x < y
  · simp [h1]
  · by_cases h2 : y < x <;> simp [h1, h2]
theorem place1_ok (x : Item) (k : Int) : M.impl_placeOf_1 (x.1, x.2.1, x.2.2) k = some (cmpI x.1 k) := by
  unfold M.impl_placeOf_1; simp only [compare_ok, Option.bind_some]
theorem cmpI_neg {x y : Int} : cmpI x y < 0 ↔ x < y := by unfold cmpI; split <;> (try split) <;> omega
theorem cmpI_zero {x y : Int} : cmpI x y = 0 ↔ x = y := by unfold cmpI; split <;> (try split) <;> omega
/-- Where a key is, or would be. -/
def placeS (l : List Item) (k : Int) : Nat := l.countP fun x => decide (x.1 < k)
theorem place_lt {l : List Item} {k : Int} (hp : l.Pairwise (fun x y => x.1 < y.1)) {i : Nat} (h : i < l.length) : i < placeS l k ↔ l[i].1 < k := by
  induction l generalizing i with
  | nil => simp at h
  | cons x l ih =>
    rw [List.pairwise_cons] at hp
    unfold placeS at ih ⊢
    rw [List.countP_cons]
    cases i with
    | zero =>
      by_cases hx : x.1 < k
      · simp [hx]
      · have : l.countP (fun x => decide (x.1 < k)) = 0 := by
          rw [List.countP_eq_zero]; intro y hy; have := hp.1 y hy; simp; omega
        simp only [this, hx, decide_false, List.getElem_cons_zero]; simp
    | succ i =>
      simp only [List.length_cons] at h
      have := ih hp.2 (i := i) (by omega)
      simp only [List.getElem_cons_succ]
      by_cases hx : x.1 < k
      · simp only [hx, decide_true, if_true]; rw [← this]; omega
      · have h0 : l.countP (fun x => decide (x.1 < k)) = 0 := by
          rw [List.countP_eq_zero]; intro y hy; have := hp.1 y hy; simp; omega
        rw [h0] at this ⊢
        have hy := hp.1 l[i] (List.getElem_mem _)
        simp only [hx, decide_false]; constructor
        · intro hh; simp at hh
        · intro hh; omega
theorem placeS_le {l : List Item} {k : Int} : placeS l k ≤ l.length := List.countP_le_length
theorem search_ok {l : List Item} {k : Int} (hp : l.Pairwise (fun x y => x.1 < y.1)) (hl : l.length < 1000000) :
    M.slices_BinarySearchFunc_impl_Item_impl_Item_int__impl_placeOf_1 l k = some ((placeS l k : Int), l.any fun x => x.1 == k) := by
  unfold M.slices_BinarySearchFunc_impl_Item_impl_Item_int__impl_placeOf_1
  have hk := loop_to (f := fun (s2 : (Int) × (Int)) => (bif decide (s2.1 < s2.2) then
  (gidx l (wk .i64 (gshr .u64 (wk .u64 (w64 (s2.1 + s2.2))) 1))).bind fun x5 =>
  (M.impl_placeOf_1 (x5.1, x5.2.1, x5.2.2) k).bind fun r15 =>
  (bif decide (r15 < 0) then
  some (.inl (w64 ((wk .i64 (gshr .u64 (wk .u64 (w64 (s2.1 + s2.2))) 1)) + 1), s2.2))
 else
  some (.inl (s2.1, wk .i64 (gshr .u64 (wk .u64 (w64 (s2.1 + s2.2))) 1))))
 else
  some (.inr s2.1))) (fun s => ∃ i j : Nat, s = ((i : Int), (j : Int)) ∧ i ≤ j ∧ j ≤ l.length ∧ i ≤ placeS l k ∧ placeS l k ≤ j) (fun s => (s.2 - s.1).toNat) (r := (placeS l k : Int)) (by
    rintro _ ⟨i, j, rfl, hij, hjl, h1, h2⟩
    by_cases hlt : i < j
    · have e1 : decide ((i : Int) < (j : Int)) = true := decide_eq_true (by omega)
      have hmid : (i + j) / 2 < l.length := by omega
      simp only [e1, cond_true, mid_ok hij (by omega), gidx_nat hmid, Option.bind_some, place1_ok]
      have hpl := place_lt (k := k) hp hmid
      by_cases hc : l[(i + j) / 2].1 < k
      · have e2 : decide (cmpI l[(i + j) / 2].1 k < 0) = true := decide_eq_true (cmpI_neg.2 hc)
        simp only [e2, cond_true, w64_succ (i := (i + j) / 2) (by omega)]
        exact .inl ⟨_, rfl, ⟨_, _, rfl, by omega, hjl, by have := hpl.2 hc; omega, h2⟩, by simp only; omega⟩
      · have e2 : decide (cmpI l[(i + j) / 2].1 k < 0) = false := decide_eq_false (fun h => hc (cmpI_neg.1 h))
        simp only [e2, cond_false]
        exact .inl ⟨_, rfl, ⟨_, _, rfl, by omega, by omega, h1, Nat.le_of_not_lt fun h => hc (hpl.1 h)⟩, by simp only; omega⟩
    · have : i = placeS l k := by omega
      have e1 : decide ((i : Int) < (j : Int)) = false := decide_eq_false (by omega)
      refine .inr ?_
      simp only [e1, cond_false]; rw [this])
    (s := (0, (l.length : Int))) ⟨0, l.length, rfl, by omega, Nat.le_refl _, by omega, placeS_le⟩
  rw [hk]
  simp only [Option.bind_some]
  by_cases hlt : placeS l k < l.length
  · have e1 : decide ((placeS l k : Int) < (l.length : Int)) = true := decide_eq_true (by omega)
    simp only [e1, cond_true, gidx_nat hlt, Option.bind_some, place1_ok]
    congr 2
    have hpl := place_lt (k := k) hp hlt
    have hge : k ≤ l[placeS l k].1 := by
      refine Int.not_lt.1 fun h => ?_
      have := hpl.2 h; omega
    rw [Bool.eq_iff_iff, beq_iff_eq, cmpI_zero, List.any_eq_true]
    constructor
    · intro h; exact ⟨_, List.getElem_mem hlt, by simpa using h⟩
    · rintro ⟨x, hx, hxk⟩
      obtain ⟨i, hi, rfl⟩ := List.getElem_of_mem hx
      have hik : l[i].1 = k := by simpa using hxk
      have hle : ¬ i < placeS l k := fun h => by have := (place_lt hp hi).1 h; omega
      rcases Nat.lt_or_ge (placeS l k) i with h | h
      · have := List.pairwise_iff_getElem.1 hp _ _ hlt hi h; omega
      · have : i = placeS l k := by omega
        subst this; exact hik
  · have e1 : decide ((placeS l k : Int) < (l.length : Int)) = false := decide_eq_false (by omega)
    simp only [e1, cond_false]
    congr 2
    symm
    rw [List.any_eq_false]
    intro x hx hxk
    obtain ⟨i, hi, rfl⟩ := List.getElem_of_mem hx
    have hik : l[i].1 = k := by simpa using hxk
    have := (place_lt (k := k) hp hi).1 (by omega); omega
theorem placeOf_ok {l : List Item} {k : Int} (h : okStore l = true) : M.impl_placeOf l k = some ((placeS l k : Int), l.any fun x => x.1 == k) := by
  obtain ⟨h1, _, h3⟩ := okStore_iff.1 h
  unfold M.impl_placeOf
  rw [search_ok h3 (by omega)]; rfl
/-- The item at the place of its key. -/
theorem place_get {l : List Item} {k : Int} (hp : l.Pairwise (fun x y => x.1 < y.1)) (h : l.any (fun x => x.1 == k) = true) : ∃ hi : placeS l k < l.length, l[placeS l k].1 = k ∧ l.find? (fun x => x.1 == k) = some l[placeS l k] := by
  obtain ⟨x, hx, hxk⟩ := List.any_eq_true.1 h
  obtain ⟨i, hi, rfl⟩ := List.getElem_of_mem hx
  have hik : l[i].1 = k := by simpa using hxk
  have hle : ¬ i < placeS l k := fun h => by have := (place_lt hp hi).1 h; omega
  have hlt : placeS l k < l.length := by omega
  have hge : ¬ placeS l k < i := fun h => by
    have h1 := List.pairwise_iff_getElem.1 hp _ _ hlt hi h
    have := (place_lt (k := k) hp hlt).2 (by omega); omega
  have : i = placeS l k := by omega
  refine ⟨hlt, by subst this; exact hik, ?_⟩
  rw [List.find?_eq_some_iff_getElem]
  refine ⟨by subst this; simpa using hik, _, hlt, rfl, fun j hj => ?_⟩
  have := (place_lt (k := k) hp (i := j) (by omega)).1 hj
  simp; omega

theorem clone_ok {v : List Int} (h : v.length ≤ 1048576) : M.slices_Clone_int_int v = some v := by
  unfold M.slices_Clone_int_int; rw [gapp_ok (by simp; omega)]; rfl
theorem implCopy_ok {x : Item} (h : x.2.1.length ≤ 1048576) : M.impl_copyItem (x.1, x.2.1, x.2.2) = some x := by
  unfold M.impl_copyItem; simp only [clone_ok h, Option.bind_some]
theorem keyAt_ok {l : List Item} {k : Int} (hl : l.length < 2000000) : M.spec_keyAt l k = some (match l.findIdx? (fun x => x.1 == k) with | some i => (i : Int) | none => -1) := by
  unfold M.spec_keyAt
  rw [loop_first (xs := l) (fun x => x.1 == k) (fun i => (i : Int))]
  · cases l.findIdx? (fun x => x.1 == k) <;> rfl
  · intro i h
    have e1 : decide ((i : Int) < (l.length : Int)) = true := decide_eq_true (by omega)
    simp only [e1, cond_true, gidx_nat h, Option.bind_some, w64_succ (i := i) (by omega)]
    cases l[i].1 == k <;> rfl
  · simp
def zItem : Item := (0, [], 0)
def getItem (l : List Item) (k : Int) : Item × Bool := if okStore l = true then (match l.find? (fun x => x.1 == k) with | some x => (x, true) | none => (zItem, false)) else (zItem, false)
theorem specGet_ok {l : List Item} {k : Int} (h : SmallS l) : M.spec_GetItem l k = some (getItem l k) := by
  unfold M.spec_GetItem getItem
  simp only [h.specv, Option.bind_some, keyAt_ok h.hL]
  cases ho : okStore l with
  | false => simp [zItem]
  | true =>
    simp only [Bool.not_true, cond_false, if_true]
    cases hf : l.findIdx? (fun x => x.1 == k) with
    | none =>
      have : l.find? (fun x => x.1 == k) = none := by
        rw [List.find?_eq_none]; rw [List.findIdx?_eq_none_iff] at hf
        intro x hx; simpa using hf x hx
      simp [this, zItem]
    | some i =>
      obtain ⟨hi, h1, h2⟩ := List.findIdx?_eq_some_iff_getElem.1 hf
      have hfd : l.find? (fun x => x.1 == k) = some l[i] := List.find?_eq_some_iff_getElem.2 ⟨h1, i, hi, rfl, fun j hj => by have := h2 j hj; simpa using this⟩
      have e1 : decide ((i : Int) < 0) = false := decide_eq_false (by omega)
      simp only [hfd, Option.bind_some, e1, cond_false, gidx_nat hi, copyItem_spec (x := l[i]) (by have := isItem_len ((okStore_iff.1 ho).2.1 l[i] (List.getElem_mem hi)); omega)]
theorem implGet_ok {l : List Item} {k : Int} (h : SmallS l) : M.impl_GetItem l k = some (getItem l k) := by
  unfold M.impl_GetItem getItem
  simp only [h.impl, Option.bind_some]
  cases ho : okStore l with
  | false => simp [zItem]
  | true =>
    simp only [Bool.not_true, cond_false, if_true, placeOf_ok ho, Option.bind_some]
    obtain ⟨_, hi, hp⟩ := okStore_iff.1 ho
    cases ha : l.any (fun x => x.1 == k) with
    | false =>
      have : l.find? (fun x => x.1 == k) = none := by
        rw [List.find?_eq_none]; rw [List.any_eq_false] at ha; exact ha
      simp [this, zItem]
    | true =>
      obtain ⟨hlt, _, hf⟩ := place_get hp ha
      simp only [hf, Bool.not_true, cond_false, gidx_nat hlt, Option.bind_some, implCopy_ok (x := l[placeS l k]) (by have := isItem_len (hi _ (List.getElem_mem hlt)); omega)]

end Go.Vs

namespace Go.Vs

section
variable {α S T R U : Type} {xs : List α}
end

end Go.Vs

namespace Go.Vs

/-! ## InBox -/
end Go.Vs

namespace Go.Vs

end Go.Vs

namespace Go.Vs

/-! ## What is drawn -/
theorem NearI.le {x : Item} (h : NearI x) : x.2.1.length ≤ 1048576 := by have := h.2.1.1; omega
section
variable {code : List UInt8}
end
end Go.Vs

namespace Go.Vs

end Go.Vs

namespace Go.Vs

/-- k, k + 1, .. -/
def upFrom (k : Int) (n : Nat) : List Int := (List.range n).map fun i : Nat => k + (i : Int)
theorem upFrom_len {k : Int} {n : Nat} : (upFrom k n).length = n := by simp [upFrom]
theorem upFrom_get {k : Int} {n i : Nat} (h : i < (upFrom k n).length) : (upFrom k n)[i] = k + (i : Int) := by simp [upFrom]
theorem markIntS_ok {a : List Int} {k : Int} (ha : a.length < 2000000) (h0 : 0 ≤ k) (h1 : k ≤ 2000000000000000) : M.laws_markIntS a k = some (k + (a.length : Int), upFrom k a.length) := by
  unfold M.laws_markIntS
  have hloop := loop_run (R := List Int × Int) (f := fun (s2 : (List Int) × (Int) × (Int)) => (bif decide (s2.2.2 < (s2.1.length : Int)) then
  (gidx s2.1 s2.2.2).bind fun x6 =>
  some (.inl ((s2.1.set s2.2.2.toNat s2.2.1), w64 (s2.2.1 + 1), w64 (s2.2.2 + 1)))
 else
  some (.inr (s2.1, s2.2.1)))) (r := (upFrom k a.length, k + (a.length : Int))) a.length (fun i => (upFrom k i ++ a.drop i, k + (i : Int), (i : Int))) (by
    intro i hi
    have hl : (upFrom k i ++ a.drop i).length = a.length := by rw [List.length_append, upFrom_len, List.length_drop]; omega
    have e1 : decide ((i : Int) < ((upFrom k i ++ a.drop i).length : Int)) = true := decide_eq_true (by omega)
    have e2 : w64 ((i : Int) + 1) = ((i + 1 : Nat) : Int) := w64_id (by omega) (by omega)
    have e3 : w64 (k + (i : Int) + 1) = k + ((i + 1 : Nat) : Int) := by rw [w64_id (by omega) (by omega)]; omega
    have hl' : i < (upFrom k i ++ a.drop i).length := by omega
    simp only [e1, cond_true, gidx_nat hl', Option.bind_some, e2, e3, Int.toNat_natCast, Option.some.injEq, Sum.inl.injEq, Prod.mk.injEq, and_true]
    rw [List.set_append_right _ _ (by rw [upFrom_len]; omega), upFrom_len, Nat.sub_self, List.drop_eq_getElem_cons hi, List.set_cons_zero]
    simp [upFrom, List.range_succ]) (by
    have e1 : decide (((a.length : Nat) : Int) < ((upFrom k a.length ++ a.drop a.length).length : Int)) = false := decide_eq_false (by rw [List.length_append, upFrom_len]; simp)
    simp only [List.drop_length, List.append_nil] at e1 ⊢
    simp only [e1, cond_false])
  simp only [upFrom, List.range_zero, List.map_nil, List.nil_append, List.drop_zero, Int.cast_ofNat_Int, Int.add_zero] at hloop
  rw [hloop]; rfl
theorem heldIntS_ok {n : Nat} {k : Int} (ha : n < 2000000) (h0 : 0 ≤ k) (h1 : k ≤ 2000000000000000) : M.laws_heldIntS (upFrom k n) k = some (k + (n : Int)) := by
  unfold M.laws_heldIntS
  have hloop := loop_run (R := Int ⊕ Int) (f := fun (s2 : (Int) × (Int)) => (bif decide (s2.2 < ((upFrom k n).length : Int)) then
  (gidx (upFrom k n) s2.2).bind fun x7 =>
  (bif x7 != s2.1 then
  some (.inr (.inr (-1)))
 else
  some (.inl (w64 (s2.1 + 1), w64 (s2.2 + 1))))
 else
  some (.inr (.inl s2.1)))) (r := .inl (k + (n : Int))) n (fun i => (k + (i : Int), (i : Int))) (by
    intro i hi
    have hl : i < (upFrom k n).length := by rw [upFrom_len]; exact hi
    have e1 : decide ((i : Int) < ((upFrom k n).length : Int)) = true := decide_eq_true (by omega)
    have e2 : w64 ((i : Int) + 1) = ((i + 1 : Nat) : Int) := w64_id (by omega) (by omega)
    have e3 : w64 (k + (i : Int) + 1) = k + ((i + 1 : Nat) : Int) := by rw [w64_id (by omega) (by omega)]; omega
    simp only [e1, cond_true, gidx_nat hl, upFrom_get, Option.bind_some, e2, e3, bne_self_eq_false, cond_false]) (by
    have e1 : decide ((n : Int) < ((upFrom k n).length : Int)) = false := decide_eq_false (by rw [upFrom_len]; omega)
    simp only [e1, cond_false])
  simp only [Int.cast_ofNat_Int, Int.add_zero] at hloop
  rw [hloop]; rfl
end Go.Vs

namespace Go.Vs

theorem dItemS_ok {a : List Item} (h : a.length ≤ 1048576) (hx : ∀ x ∈ a, x.2.1.length ≤ 1048576) : M.dItemS a = some a := by
  unfold M.dItemS
  rw [if_pos ⟨by omega, fun x hx' => toIntS_ok (hx x hx')⟩]
theorem dmarkItemS_ok : ∀ (a : List Item) (k : Int), (∀ x ∈ a, x.2.1.length ≤ 1048576) → 0 ≤ k → k + a.length * 1048578 ≤ 1999999999999990 → ∃ r, M.dmarkItemS a k = some r ∧ k ≤ r ∧ r ≤ k + a.length * 1048578
  | [], k, _, _, _ => ⟨k, rfl, Int.le_refl _, by simp⟩
  | x :: a, k, hx, h0, h1 => by
    have hl := hx x (by simp)
    have h2 : ((x :: a).length : Int) = a.length + 1 := by simp
    rw [h2] at h1
    have e1 : w64 (k + 1) = k + 1 := w64_id (by omega) (by omega)
    have hm := markIntS_ok (a := x.2.1) (k := k + 1) (by omega) (by omega) (by omega)
    have e2 : w64 (k + 1 + (x.2.1.length : Int) + 1) = k + 1 + (x.2.1.length : Int) + 1 := w64_id (by omega) (by omega)
    obtain ⟨r, hr, g1, g2⟩ := dmarkItemS_ok a (k + 1 + (x.2.1.length : Int) + 1) (fun y hy => hx y (by simp [hy])) (by omega) (by omega)
    refine ⟨r, ?_, by omega, by rw [h2]; omega⟩
    simp only [M.dmarkItemS, e1, hm, Option.bind_some, e2, hr]
theorem markItemD_ok {a : List Item} (h : a.length ≤ 1048576) (hx : ∀ x ∈ a, x.2.1.length ≤ 1048576) : ∃ r, M.markItemD a 1 = some r ∧ 1 ≤ r ∧ r ≤ 1100000000000 := by
  obtain ⟨r, hr, h1, h2⟩ := dmarkItemS_ok a 1 hx (by omega) (by omega)
  refine ⟨r, ?_, h1, by omega⟩
  unfold M.markItemD
  rw [if_pos (by omega), hr]
theorem one0 : (0 : Int) ≤ 1 := by omega
theorem one1 : (1 : Int) ≤ 2000000000000000 := by omega

theorem getItem_len {l : List Item} {k : Int} (s : SmallS l) : (getItem l k).1.2.1.length < 2000000 := by
  unfold getItem
  split
  · split
    · rename_i x hx; exact s.hb x (List.mem_of_find?_eq_some hx)
    · simp [zItem]
  · simp [zItem]
theorem law_ExactGetItem (l : List Item) (key : Int) (ha : l.length ≤ 9223372036854775807 ∧ ∀ x ∈ l, (True ∧ ((x.2.1.length ≤ 9223372036854775807 ∧ ∀ y ∈ x.2.1, True) ∧ True))) : M.laws_FnExactGetItem l key = some true := by
  unfold M.laws_FnExactGetItem
  obtain ⟨s, es, hs⟩ := szItemS_ok (left := 1048576) ha.1 (fun x hx => (ha.2 x hx).2.1.1) (by omega) (by omega)
  simp only [es, Option.bind_some]
  rcases hs with hs | ⟨h0, h1, h2⟩
  · simp [hs]
  have hn : ¬ s < 0 := by omega
  have hb : ∀ x ∈ l, x.2.1.length < 2000000 := fun x hx => by have := h2 x hx; omega
  have ss : SmallS l := ⟨by omega, h2⟩
  have lm := getItem_len (k := key) ss
  obtain ⟨k, hk, k1, k2⟩ := markItemD_ok h1 h2
  have hn1 : ¬ k < 0 := by omega
  have hn2 : ¬ (1 + ((getItem l key).1.2.1.length : Int)) < 0 := by omega
  simp only [hn, decide_false, cond_false, dItemS_ok h1 h2, Option.bind_some, implGet_ok ss, specGet_ok ss, eqItem_self lm, eqItemS_self (show l.length < 2000000 by omega) hb, Bool.not_true, bne_self_eq_false, hk, hn1, M.laws_markItem, M.laws_heldItem, markIntS_ok lm one0 one1, heldIntS_ok lm one0 one1, hn2]

end Go.Vs
