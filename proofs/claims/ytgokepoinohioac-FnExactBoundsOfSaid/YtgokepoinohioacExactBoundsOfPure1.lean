/- Plain facts of what the functions compute. -/
import Derived.Test.YtgokepoinohioacExactBoundsOfEng1
import Derived.Test.YtgokepoinohioacExactBoundsOfLib1
set_option linter.unusedVariables false
set_option linter.unusedSimpArgs false
namespace Go.Vs

theorem loop_run {S R : Type} {f : S → Option (S ⊕ R)} {r : R} (k : Nat) (st : Nat → S) (hs : ∀ i, i < k → f (st i) = some (.inl (st (i + 1)))) (he : f (st k) = some (.inr r)) : loopM f (st 0) = some r := by
  induction k generalizing st with
  | zero => rw [loopM_eq, he]; rfl
  | succ k ih =>
    rw [loopM_eq, hs 0 (by omega)]
    exact ih (fun i => st (i + 1)) (fun i hi => hs (i + 1) (by omega)) he

theorem gidx_nat {α : Type} {xs : List α} {i : Nat} (h : i < xs.length) : gidx xs (i : Int) = some xs[i] := by
  unfold gidx
  rw [if_pos (by omega)]
  simp [h]
theorem gapp_ok {α : Type} {xs ys : List α} (h : xs.length + ys.length ≤ 2147483648) : gapp xs ys = some (xs ++ ys) := by unfold gapp; rw [if_pos h]
theorem gslice_ok {α : Type} {xs : List α} {l h : Int} (h0 : 0 ≤ l) (h1 : l ≤ h) (h2 : h ≤ xs.length) : gslice xs l h = some ((xs.take h.toNat).drop l.toNat) := by
  unfold gslice; rw [if_pos ⟨h0, h1, h2⟩]
theorem gmake_ok {α : Type} {k : Int} {z : α} (h0 : 0 ≤ k) (h1 : k ≤ 2147483648) : gmake k z = some (List.replicate k.toNat z) := by unfold gmake; rw [if_pos ⟨h0, h1⟩]
theorem garr_ok {α : Type} {k : Nat} {xs : List α} (h : k ≤ xs.length) : garr k xs = some (xs.take k) := by unfold garr; rw [if_pos h]

/-- A loop that looks at each element, and leaves at the first that fails. -/
theorem loop_all {α R : Type} {xs : List α} {P : α → Bool} {r : R} {f : Int → Option (Int ⊕ (Unit ⊕ R))} (hs : ∀ i (h : i < xs.length), f (i : Int) = some (if P xs[i] then .inl ((i : Int) + 1) else .inr (.inr r))) (he : f (xs.length : Int) = some (.inr (.inl ()))) :
    loopM f 0 = some (if xs.all P then .inl () else .inr r) := by
  have key : ∀ m k : Nat, k + m = xs.length → loopM f (k : Int) = some (if (xs.drop k).all P then .inl () else .inr r) := by
    intro m
    induction m with
    | zero =>
      intro k hk
      have : k = xs.length := by omega
      subst this
      rw [loopM_eq, he]; simp [selim]
    | succ m ih =>
      intro k hk
      have hlt : k < xs.length := by omega
      rw [loopM_eq, hs k hlt, List.drop_eq_getElem_cons hlt]
      by_cases hp : P xs[k] = true
      · rw [if_pos hp]
        have := ih (k + 1) (by omega)
        simp only [Int.natCast_add, Int.cast_ofNat_Int] at this
        simp only [List.all_cons, hp, Bool.true_and, selim, this, Option.bind_some]
      · rw [if_neg hp]
        simp only [List.all_cons, Bool.not_eq_true] at hp ⊢
        simp only [hp, Bool.false_and, selim, Option.bind_some]; rfl
  have := key xs.length 0 (by omega)
  simpa using this
end Go.Vs

namespace Go.Vs

/-- A reader that has been asked at most k times. -/
def Good (k : Nat) (r : List UInt8 × Int) : Prop := r.1.length ≤ 2000 ∧ 0 ≤ r.2 ∧ r.2 ≤ k
theorem Good.mono {k m : Nat} {r : List UInt8 × Int} (h : Good k r) (hm : k ≤ m) : Good m r := ⟨h.1, h.2.1, by have := h.2.2; omega⟩

/-- A valid vector. -/
def isVec (v : List Int) : Bool := decide (v.length = 4) && v.all fun x => decide (-100 ≤ x) && decide (x ≤ 100)
theorem isVec_iff {v : List Int} : isVec v = true ↔ v.length = 4 ∧ ∀ x ∈ v, -100 ≤ x ∧ x ≤ 100 := by
  unfold isVec; simp
theorem isVec_four {v : List Int} (h : isVec v = true) : ∃ a b c d, v = [a, b, c, d] ∧ (-100 ≤ a ∧ a ≤ 100) ∧ (-100 ≤ b ∧ b ≤ 100) ∧ (-100 ≤ c ∧ c ≤ 100) ∧ (-100 ≤ d ∧ d ≤ 100) := by
  obtain ⟨h1, h2⟩ := isVec_iff.1 h
  match v, h1 with
  | [a, b, c, d], _ => exact ⟨a, b, c, d, rfl, h2 a (by simp), h2 b (by simp), h2 c (by simp), h2 d (by simp)⟩

end Go.Vs
namespace Go.Vs
/-- A vector that may be drawn. -/
def Near (v : List Int) : Prop := v.length ≤ 5 ∧ ∀ x ∈ v, -101 ≤ x ∧ x ≤ 101
theorem copy_ok {v : List Int} (h : v.length ≤ 1000000) : M.spec_copyInts v = some v := by
  unfold M.spec_copyInts
  rw [gapp_ok (by simp; omega)]; rfl
theorem implCoords_ok (v : List Int) (hb : v.length < 2000000) : M.impl_validCoords v = some (v.all fun x => decide (-100 ≤ x) && decide (x ≤ 100)) := by
  unfold M.impl_validCoords
  rw [loop_all (xs := v) (P := fun x => decide (-100 ≤ x) && decide (x ≤ 100)) (r := false)]
  · by_cases ha : (v.all fun x => decide (-100 ≤ x) && decide (x ≤ 100)) = true
    · simp only [ha, if_true, Option.bind_some, selim]
    · simp only [Bool.not_eq_true] at ha
      simp only [ha]; simp [selim]
  · intro i h
    have e1 : decide ((i : Int) < (v.length : Int)) = true := by simpa using h
    have e2 : w64 ((i : Int) + 1) = (i : Int) + 1 := w64_id (by omega) (by omega)
    simp only [e1, cond_true, gidx_nat h, Option.bind_some, e2]
    by_cases c1 : v[i] < -100
    · have c2 : ¬ (-100 ≤ v[i]) := by omega
      simp [c1, c2]
    · by_cases c3 : 100 < v[i]
      · have c4 : ¬ (v[i] ≤ 100) := by omega
        simp [c1, c3, c4]
      · simp [c1, c3, show -100 ≤ v[i] by omega, show v[i] ≤ 100 by omega]
  · simp
theorem impl_valid (v : List Int) (hb : v.length < 2000000) : M.impl_ValidVector v = some (isVec v) := by
  unfold M.impl_ValidVector
  simp only [implCoords_ok v hb, Option.bind_some]
  unfold isVec
  by_cases hl : v.length = 4
  · have e : ((v.length : Int) == 4) = true := by simp; omega
    rw [e, cond_true, decide_eq_true hl, Bool.true_and]
  · have e : ((v.length : Int) == 4) = false := by simp; omega
    rw [e, cond_false, decide_eq_false hl, Bool.false_and]
theorem spec_inR (n l h : Int) : M.spec_inRange n l h = some (decide (l ≤ n) && decide (n ≤ h)) := by
  unfold M.spec_inRange
  by_cases h1 : l ≤ n <;> simp [h1]
theorem spec_all (v : List Int) (l h : Int) (hb : v.length < 2000000) : M.spec_allIn v l h = some (v.all fun x => decide (l ≤ x) && decide (x ≤ h)) := by
  unfold M.spec_allIn
  rw [loop_all (xs := v) (P := fun x => decide (l ≤ x) && decide (x ≤ h)) (r := false)]
  · by_cases ha : (v.all fun x => decide (l ≤ x) && decide (x ≤ h)) = true
    · simp only [ha, if_true, Option.bind_some, selim]
    · simp only [Bool.not_eq_true] at ha
      simp [ha, selim]
  · intro i hi
    have e1 : decide ((i : Int) < (v.length : Int)) = true := by simpa using hi
    have e2 : w64 ((i : Int) + 1) = (i : Int) + 1 := w64_id (by omega) (by omega)
    simp only [e1, cond_true, gidx_nat hi, Option.bind_some, e2, spec_inR]
    cases (decide (l ≤ v[i]) && decide (v[i] ≤ h)) <;> rfl
  · simp
theorem spec_isVec (v : List Int) (hb : v.length < 2000000) : M.spec_isVector v = some (isVec v) := by
  unfold M.spec_isVector
  by_cases hl : v.length = 4
  · have e : ((v.length : Int) == 4) = true := by simp; omega
    simp [e, spec_all v _ _ hb, isVec, hl]
  · have e : ((v.length : Int) == 4) = false := by simp; omega
    simp [e, isVec, hl]
end Go.Vs

namespace Go.Vs

end Go.Vs

namespace Go.Vs

theorem loop4 {S R : Type} {f : S → Option (S ⊕ R)} {s0 s1 s2 s3 s4 : S} {r : R} (h0 : f s0 = some (.inl s1)) (h1 : f s1 = some (.inl s2)) (h2 : f s2 = some (.inl s3)) (h3 : f s3 = some (.inl s4)) (h4 : f s4 = some (.inr r)) : loopM f s0 = some r := by
  rw [loopM_eq, h0, Option.bind_some, selim, loopM_eq, h1, Option.bind_some, selim, loopM_eq, h2, Option.bind_some, selim, loopM_eq, h3, Option.bind_some, selim, loopM_eq, h4]; rfl
theorem gi0 {α : Type} {a : α} {l : List α} : gidx (a :: l) 0 = some a := gidx_nat (i := 0) (by simp)
theorem gi1 {α : Type} {a b : α} {l : List α} : gidx (a :: b :: l) 1 = some b := gidx_nat (i := 1) (by simp)
theorem gi2 {α : Type} {a b c : α} {l : List α} : gidx (a :: b :: c :: l) 2 = some c := gidx_nat (i := 2) (by simp)
theorem gi3 {α : Type} {a b c d : α} {l : List α} : gidx (a :: b :: c :: d :: l) 3 = some d := gidx_nat (i := 3) (by simp)
theorem i01 : w64 ((0 : Int) + 1) = 1 := w64_id (by omega) (by omega)
theorem i12 : w64 ((1 : Int) + 1) = 2 := w64_id (by omega) (by omega)
theorem i23 : w64 ((2 : Int) + 1) = 3 := w64_id (by omega) (by omega)
theorem i34 : w64 ((3 : Int) + 1) = 4 := w64_id (by omega) (by omega)
theorem d04 : decide ((0 : Int) < 4) = true := rfl
theorem d14 : decide ((1 : Int) < 4) = true := rfl
theorem d24 : decide ((2 : Int) < 4) = true := rfl
theorem d34 : decide ((3 : Int) < 4) = true := rfl
theorem d44 : decide ((4 : Int) < 4) = false := rfl
theorem l4 {α : Type} {a b c d : α} : (([a, b, c, d] : List α).length : Int) = 4 := rfl

end Go.Vs

namespace Go.Vs

theorem equalInts_ok {a b : List Int} (ha : a.length < 2000000) : M.laws_equalInts a b = some (decide (a = b)) := by
  unfold M.laws_equalInts
  by_cases hl : a.length = b.length
  · have e : ((a.length : Int) != (b.length : Int)) = false := by simp; omega
    simp only [e, cond_false]
    rw [loop_all (xs := a.zip b) (P := fun p => p.1 == p.2) (r := false)]
    · by_cases h : a = b
      · subst h
        have : (a.zip a).all (fun p => p.1 == p.2) = true := by
          rw [List.all_eq_true]; intro p hp
          obtain ⟨i, hi, rfl⟩ := List.mem_iff_getElem.1 hp
          simp
        rw [if_pos this]; simp [selim]
      · have : ¬ (a.zip b).all (fun p => p.1 == p.2) = true := by
          intro hh; apply h
          apply List.ext_getElem hl
          intro i h1 h2
          rw [List.all_eq_true] at hh
          have := hh (a[i], b[i]) (List.mem_iff_getElem.2 ⟨i, by simp; omega, by simp⟩)
          simpa using this
        rw [if_neg this]; simp [selim, h]
    · intro i hi
      have hi1 : i < a.length := by simp at hi; omega
      have hi2 : i < b.length := by simp at hi; omega
      have e1 : decide ((i : Int) < (a.length : Int)) = true := by simpa using hi1
      have e2 : w64 ((i : Int) + 1) = (i : Int) + 1 := w64_id (by omega) (by omega)
      simp only [e1, cond_true, gidx_nat hi1, gidx_nat hi2, Option.bind_some, e2, List.getElem_zip]
      by_cases hc : a[i] = b[i]
      · simp [hc]
      · have hb : (a[i] == b[i]) = false := by simpa using hc
        have hb' : (a[i] != b[i]) = true := by simpa using hc
        simp [hb, hb']
    · have : (a.zip b).length = a.length := by simp; omega
      rw [this]; simp
  · have e : ((a.length : Int) != (b.length : Int)) = true := by simp; omega
    have : a ≠ b := fun h => hl (by rw [h])
    simp [e, this]

/-- Gaps of two vectors. -/
structure Gaps (g0 g1 g2 g3 : Int) : Prop where
  n0 : 0 ≤ g0
  n1 : 0 ≤ g1
  n2 : 0 ≤ g2
  n3 : 0 ≤ g3
  m0 : g0 ≤ 200
  m1 : g1 ≤ 200
  m2 : g2 ≤ 200
  m3 : g3 ≤ 200
end Go.Vs

namespace Go.Vs

end Go.Vs

namespace Go.Vs

end Go.Vs

namespace Go.Vs

/-- The least and the greatest of a coordinate. -/
def lowAt (j : Nat) (x : Int) (l : List (List Int)) : Int := l.foldl (fun m v => min m (v.getD j 0)) x
def highAt (j : Nat) (x : Int) (l : List (List Int)) : Int := l.foldl (fun m v => max m (v.getD j 0)) x
end Go.Vs

namespace Go.Vs

end Go.Vs

namespace Go.Vs

theorem toIntS_ok {a : List Int} (h : a.length ≤ 1048576) : M.laws_toIntS a = some a := by
  unfold M.laws_toIntS
  rw [gmake_ok (by omega) (by omega)]
  simp only [Option.bind_some, Int.toNat_natCast]
  have hloop := loop_run (R := List Int) (f := fun (s10 : (List Int) × (Int)) => (bif decide (s10.2 < (a.length : Int)) then
  (gidx a s10.2).bind fun x18 =>
  (gidx s10.1 s10.2).bind fun x23 =>
  some (.inl ((s10.1.set s10.2.toNat x18), w64 (s10.2 + 1)))
 else
  some (.inr s10.1))) (r := a) a.length (fun i => (a.take i ++ List.replicate (a.length - i) 0, (i : Int))) (by
    intro i hi
    have e1 : decide ((i : Int) < (a.length : Int)) = true := by simpa using hi
    have e2 : w64 ((i : Int) + 1) = ((i + 1 : Nat) : Int) := w64_id (by omega) (by omega)
    have hl : i < (a.take i ++ List.replicate (a.length - i) (0 : Int)).length := by simp; omega
    simp only [e1, cond_true, gidx_nat hi, gidx_nat hl, Option.bind_some, e2, Int.toNat_natCast, Option.some.injEq, Sum.inl.injEq, Prod.mk.injEq, and_true]
    rw [List.take_succ_eq_append_getElem hi]
    have hr : List.replicate (a.length - i) (0 : Int) = 0 :: List.replicate (a.length - (i + 1)) 0 := by
      rw [show a.length - i = (a.length - (i + 1)) + 1 by omega, List.replicate_succ]
    rw [hr, List.set_append_right _ _ (by simp; omega)]
    have : i - (a.take i).length = 0 := by simp; omega
    rw [this]; simp only [List.set_cons_zero, List.append_assoc, List.cons_append, List.nil_append]) (by
    have e1 : decide (((a.length : Nat) : Int) < (a.length : Int)) = false := by simp
    simp only [e1, cond_false, List.take_length, Nat.sub_self, List.replicate_zero, List.append_nil])
  simp only [List.take_zero, List.nil_append, Nat.sub_zero, Int.cast_ofNat_Int] at hloop
  rw [hloop]; rfl
theorem eqIntS_ok {a b : List Int} (ha : a.length < 2000000) : M.laws_eqIntS a b = some (decide (a = b)) := equalInts_ok ha

end Go.Vs

namespace Go.Vs

end Go.Vs

namespace Go.Vs

abbrev Item := Int × (List Int) × Int
/-- A valid item. -/
def isItem (x : Item) : Bool := (decide (1 ≤ x.1) && decide (x.1 ≤ 99)) && (isVec x.2.1 && (decide (0 ≤ x.2.2) && decide (x.2.2 ≤ 15)))
/-- Valid items, with ascending keys above p. -/
def okFrom : Int → List Item → Bool
  | _, [] => true
  | p, x :: l => (isItem x && decide (p < x.1)) && okFrom x.1 l
def okStore (l : List Item) : Bool := decide (l.length ≤ 16) && okFrom 0 l

theorem implItem_ok {x : Item} (h : x.2.1.length < 2000000) : M.impl_validItem (x.1, x.2.1, x.2.2) = some (isItem x) := by
  unfold M.impl_validItem M.impl_validKey M.impl_validTags isItem
  simp only [impl_valid x.2.1 h, Option.bind_some]
  by_cases h1 : 1 ≤ x.1
  · by_cases h2 : x.1 ≤ 99
    · by_cases h3 : isVec x.2.1 = true
      · by_cases h4 : 0 ≤ x.2.2
        · simp [h1, h2, h3, h4]
        · simp [h1, h2, h3, h4]
      · simp only [Bool.not_eq_true] at h3
        simp [h1, h2, h3]
    · simp [h1, h2]
  · simp [h1]
theorem specItem_ok {x : Item} (h : x.2.1.length < 2000000) : M.spec_validItem (x.1, x.2.1, x.2.2) = some (isItem x) := by
  unfold M.spec_validItem isItem
  simp only [spec_inR, spec_isVec x.2.1 h, Option.bind_some]
  cases (decide (1 ≤ x.1) && decide (x.1 ≤ 99)) <;> cases isVec x.2.1 <;> simp

theorem implStore_ok {l : List Item} (hb : ∀ x ∈ l, x.2.1.length < 2000000) : M.impl_ValidStore l = some (okStore l) := by
  unfold M.impl_ValidStore okStore
  by_cases hl : 16 < (l.length : Int)
  · have : ¬ l.length ≤ 16 := by omega
    simp [hl, this]
  have hl' : l.length ≤ 16 := by omega
  simp only [hl, decide_false, cond_false, hl', decide_true, Bool.true_and]
  have key : ∀ m k : Nat, ∀ p : Int, k + m = l.length → loopM (fun (s3 : (Int) × (Int)) => (bif decide (s3.2 < (l.length : Int)) then
  (gidx l s3.2).bind fun x8 =>
  Option.bind ((M.impl_validItem (x8.1, x8.2.1, x8.2.2)).bind fun r30 =>
  (bif !r30 then
  some true
 else
  some (decide (x8.1 ≤ s3.1)))) fun o29 =>
  (bif o29 then
  some (.inr (.inr false))
 else
  some (.inl (x8.1, w64 (s3.2 + 1))))
 else
  some (.inr (.inl ())))) (p, (k : Int)) = some (if okFrom p (l.drop k) then (.inl () : Unit ⊕ Bool) else .inr false) := by
    intro m
    induction m with
    | zero =>
      intro k p hk
      have : k = l.length := by omega
      subst this
      rw [loopM_eq]; simp [selim, okFrom]
    | succ m ih =>
      intro k p hk
      have hlt : k < l.length := by omega
      rw [loopM_eq, List.drop_eq_getElem_cons hlt]
      have e1 : decide ((k : Int) < (l.length : Int)) = true := by simpa using hlt
      have e2 : w64 ((k : Int) + 1) = ((k + 1 : Nat) : Int) := w64_id (by omega) (by omega)
      simp only [e1, cond_true, gidx_nat hlt, Option.bind_some, implItem_ok (hb _ (List.getElem_mem hlt)), e2, okFrom]
      by_cases h1 : isItem l[k] = true
      · by_cases h2 : p < l[k].1
        · have h2' : ¬ l[k].1 ≤ p := by omega
          simp only [h1, h2, h2', Bool.not_true, cond_false, Option.bind_some, decide_false, decide_true, Bool.and_self, Bool.true_and, selim]
          exact ih (k + 1) l[k].1 (by omega)
        · have h2' : l[k].1 ≤ p := by omega
          simp [h1, h2, h2', selim]
      · simp only [Bool.not_eq_true] at h1
        simp [h1, selim]
  have := key l.length 0 0 (by omega)
  simp only [Int.cast_ofNat_Int, List.drop_zero] at this
  rw [this]
  cases okFrom 0 l <;> rfl

/-- The key before a place. -/
def keyBefore (l : List Item) : Nat → Int
  | 0 => 0
  | k + 1 => (l.getD k (0, [], 0)).1
theorem specStore_ok {l : List Item} (hb : ∀ x ∈ l, x.2.1.length < 2000000) (hL : l.length < 2000000) : M.spec_validStore l = some (okStore l) := by
  unfold M.spec_validStore okStore
  have key : ∀ m k : Nat, k + m = l.length → loopM (fun (s2 : (Int)) => (bif decide (s2 < (l.length : Int)) then
  Option.bind ((gidx l s2).bind fun x8 =>
  (M.spec_validItem (x8.1, x8.2.1, x8.2.2)).bind fun r19 =>
  (bif !r19 then
  some true
 else
  (bif decide (0 < s2) then
  (gidx l s2).bind fun x24 =>
  (gidx l (w64 (s2 - 1))).bind fun x29 =>
  some (decide (x24.1 ≤ x29.1))
 else
  some false))) fun o7 =>
  (bif o7 then
  some (.inr (.inr false))
 else
  some (.inl (w64 (s2 + 1))))
 else
  some (.inr (.inl ())))) (k : Int) = some (if okFrom (keyBefore l k) (l.drop k) then (.inl () : Unit ⊕ Bool) else .inr false) := by
    intro m
    induction m with
    | zero =>
      intro k hk
      have : k = l.length := by omega
      subst this
      rw [loopM_eq]; simp [selim, okFrom]
    | succ m ih =>
      intro k hk
      have hlt : k < l.length := by omega
      rw [loopM_eq, List.drop_eq_getElem_cons hlt]
      have e1 : decide ((k : Int) < (l.length : Int)) = true := by simpa using hlt
      have e2 : w64 ((k : Int) + 1) = ((k + 1 : Nat) : Int) := w64_id (by omega) (by omega)
      have hnext : keyBefore l (k + 1) = l[k].1 := by simp [keyBefore, List.getD, hlt]
      have ih' := ih (k + 1) (by omega)
      rw [hnext] at ih'
      simp only [e1, cond_true, gidx_nat hlt, Option.bind_some, specItem_ok (hb _ (List.getElem_mem hlt)), e2, okFrom]
      by_cases h1 : isItem l[k] = true
      · simp only [h1, Bool.not_true, cond_false, Bool.true_and]
        match k, hlt with
        | 0, hlt =>
          have hpos : keyBefore l 0 < l[0].1 := by
            have : 1 ≤ l[0].1 := by
              unfold isItem at h1; simp at h1; exact h1.1.1
            show 0 < _; omega
          have e3 : decide ((0 : Int) < ((0 : Nat) : Int)) = false := rfl
          simp only [e3, cond_false, Option.bind_some, hpos, decide_true, Bool.true_and, selim]
          exact ih'
        | j + 1, hlt =>
          have e3 : decide ((0 : Int) < ((j + 1 : Nat) : Int)) = true := by simp
          have e4 : w64 (((j + 1 : Nat) : Int) - 1) = (j : Int) := by rw [w64_id (by omega) (by omega)]; omega
          have hj : j < l.length := by omega
          have hk : keyBefore l (j + 1) = l[j].1 := by simp [keyBefore, List.getD, hj]
          simp only [e3, cond_true, e4, gidx_nat hj, Option.bind_some, hk]
          by_cases h2 : l[j].1 < l[j + 1].1
          · have h2' : ¬ l[j + 1].1 ≤ l[j].1 := by omega
            simp only [h2, h2', decide_false, decide_true, cond_false, Bool.true_and, selim, Option.bind_some]
            exact ih'
          · have h2' : l[j + 1].1 ≤ l[j].1 := by omega
            simp [h2, h2', selim]
      · simp only [Bool.not_eq_true] at h1
        simp [h1, selim]
  have := key l.length 0 (by omega)
  simp only [Int.cast_ofNat_Int, List.drop_zero] at this
  rw [this]
  show _ = some (decide (l.length ≤ 16) && okFrom 0 l)
  have e : keyBefore l 0 = 0 := rfl
  rw [e]
  by_cases h16 : l.length ≤ 16
  · have : decide ((l.length : Int) ≤ 16) = true := by simp; omega
    cases okFrom 0 l <;> simp [selim, this, h16]
  · have : decide ((l.length : Int) ≤ 16) = false := by simp; omega
    cases okFrom 0 l <;> simp [selim, this, h16]
end Go.Vs

namespace Go.Vs

theorem szIntS_ok {a : List Int} {left : Int} (ha : a.length ≤ 9223372036854775807) (h0 : 0 ≤ left) (h1 : left ≤ 1048576) :
    ∃ s, M.laws_szIntS a left = some s ∧ (s < 0 ∨ (0 ≤ s ∧ s ≤ left ∧ a.length ≤ 1048576)) := by
  unfold M.laws_szIntS
  rw [w64_id (by omega) (by omega)]
  by_cases h : left - (a.length : Int) < 0
  · exact ⟨-1, by simp [h], .inl (by omega)⟩
  · exact ⟨left - a.length, by simp [h], .inr (by omega)⟩
theorem szItem_ok {x : Item} {left : Int} (ha : x.2.1.length ≤ 9223372036854775807) (h0 : 0 ≤ left) (h1 : left ≤ 1048576) :
    ∃ s, M.laws_szItem x left = some s ∧ (s < 0 ∨ (0 ≤ s ∧ s ≤ left ∧ x.2.1.length ≤ 1048576)) := by
  obtain ⟨s, e, h⟩ := szIntS_ok ha h0 h1
  unfold M.laws_szItem
  simp only [e, Option.bind_some]
  by_cases c : s < 0
  · exact ⟨-1, by simp [c], .inl (by omega)⟩
  · exact ⟨s, by simp [c], h⟩
theorem szItemS_ok {a : List Item} {left : Int} (ha : a.length ≤ 9223372036854775807) (hx : ∀ x ∈ a, x.2.1.length ≤ 9223372036854775807) (h0 : 0 ≤ left) (h1 : left ≤ 1048576) :
    ∃ s, M.laws_szItemS a left = some s ∧ (s < 0 ∨ (0 ≤ s ∧ a.length ≤ 1048576 ∧ ∀ x ∈ a, x.2.1.length ≤ 1048576)) := by
  unfold M.laws_szItemS
  rw [w64_id (by omega) (by omega)]
  by_cases h : left - (a.length : Int) < 0
  · exact ⟨-1, by simp [h], .inl (by omega)⟩
  simp only [h, decide_false, cond_false]
  have hl : a.length ≤ 1048576 := by omega
  have key : ∀ m k : Nat, ∀ l : Int, k + m = a.length → 0 ≤ l → l ≤ 1048576 → ∃ r : Int ⊕ Int, loopM (fun (s3 : (Int) × (Int)) => (bif decide (s3.2 < (a.length : Int)) then
  (gidx a s3.2).bind fun x8 =>
  (M.laws_szItem (x8.1, x8.2.1, x8.2.2) s3.1).bind fun r19 =>
  (bif decide (r19 < 0) then
  some (.inr (.inr (-1)))
 else
  some (.inl (r19, w64 (s3.2 + 1))))
 else
  some (.inr (.inl s3.1)))) (l, (k : Int)) = some r ∧ (r = .inr (-1) ∨ ∃ l', r = .inl l' ∧ 0 ≤ l' ∧ ∀ x ∈ a.drop k, x.2.1.length ≤ 1048576) := by
    intro m
    induction m with
    | zero =>
      intro k l hk hl0 _
      have : k = a.length := by omega
      subst this
      refine ⟨.inl l, ?_, .inr ⟨l, rfl, hl0, by simp⟩⟩
      rw [loopM_eq]; simp [selim]
    | succ m ih =>
      intro k l hk hl0 hl1
      have hlt : k < a.length := by omega
      have e1 : decide ((k : Int) < (a.length : Int)) = true := by simpa using hlt
      have e2 : w64 ((k : Int) + 1) = ((k + 1 : Nat) : Int) := w64_id (by omega) (by omega)
      obtain ⟨s, es, hs⟩ := szItem_ok (x := a[k]) (hx _ (List.getElem_mem hlt)) hl0 hl1
      have es' : M.laws_szItem (a[k].1, a[k].2.1, a[k].2.2) l = some s := es
      rw [loopM_eq]
      simp only [e1, cond_true, gidx_nat hlt, Option.bind_some, es', e2]
      rcases hs with hs | ⟨hs0, hs1, hs2⟩
      · exact ⟨.inr (-1), by simp [hs, selim], .inl rfl⟩
      · obtain ⟨r, hr, hr'⟩ := ih (k + 1) s (by omega) hs0 (by omega)
        refine ⟨r, ?_, ?_⟩
        · have : ¬ s < 0 := by omega
          simp only [this, decide_false, cond_false, selim, Option.bind_some]
          exact hr
        · rcases hr' with hr' | ⟨l', e, h0', hall⟩
          · exact .inl hr'
          · refine .inr ⟨l', e, h0', ?_⟩
            rw [List.drop_eq_getElem_cons hlt]
            intro x hx'
            rcases List.mem_cons.1 hx' with h | h
            · subst h; exact hs2
            · exact hall x h
  obtain ⟨r, hr, hr'⟩ := key a.length 0 (left - a.length) (by omega) (by omega) (by omega)
  simp only [Int.cast_ofNat_Int] at hr
  rw [hr]
  rcases hr' with rfl | ⟨l', rfl, h0', hall⟩
  · exact ⟨-1, rfl, .inl (by omega)⟩
  · exact ⟨l', rfl, .inr ⟨h0', hl, by simpa using hall⟩⟩

theorem eqItem_self {x : Item} (h : x.2.1.length < 2000000) : M.laws_eqItem (x.1, x.2.1, x.2.2) (x.1, x.2.1, x.2.2) = some true := by
  unfold M.laws_eqItem
  simp only [bne_self_eq_false, cond_false, eqIntS_ok h, decide_true, Bool.not_true, Option.bind_some]
theorem eqItemS_self {a : List Item} (h : a.length < 2000000) (hx : ∀ x ∈ a, x.2.1.length < 2000000) : M.laws_eqItemS a a = some true := by
  unfold M.laws_eqItemS
  simp only [bne_self_eq_false, cond_false]
  rw [loop_all (xs := a) (P := fun _ => true) (r := false)]
  · simp [selim]
  · intro i hi
    have e1 : decide ((i : Int) < (a.length : Int)) = true := by simpa using hi
    have e2 : w64 ((i : Int) + 1) = (i : Int) + 1 := w64_id (by omega) (by omega)
    simp only [e1, cond_true, gidx_nat hi, Option.bind_some, eqItem_self (hx _ (List.getElem_mem hi)), Bool.not_true, cond_false, e2, if_true]
  · simp

end Go.Vs

namespace Go.Vs

theorem w64_succ {i : Nat} (h : i < 4000000000000000000) : w64 ((i : Int) + 1) = ((i + 1 : Nat) : Int) := w64_id (by omega) (by omega)

section
variable {α S T R U : Type} {xs : List α}
theorem loop_fold (st : S → Int → T) (g : S → α → S) (Inv : Nat → S → Prop) {fin : S → R} {f : T → Option (T ⊕ R)} {s0 : S} (h0 : Inv 0 s0)
    (hs : ∀ s i (h : i < xs.length), Inv i s → f (st s (i : Int)) = some (.inl (st (g s xs[i]) ((i + 1 : Nat) : Int))) ∧ Inv (i + 1) (g s xs[i]))
    (he : ∀ s, Inv xs.length s → f (st s (xs.length : Int)) = some (.inr (fin s))) :
    loopM f (st s0 0) = some (fin (xs.foldl g s0)) ∧ Inv xs.length (xs.foldl g s0) := by
  have key : ∀ m k : Nat, ∀ s, k + m = xs.length → Inv k s → loopM f (st s (k : Int)) = some (fin ((xs.drop k).foldl g s)) ∧ Inv xs.length ((xs.drop k).foldl g s) := by
    intro m
    induction m with
    | zero =>
      intro k s hk hi
      have : k = xs.length := by omega
      subst this
      rw [loopM_eq, he s hi]; simpa [selim] using hi
    | succ m ih =>
      intro k s hk hi
      have hlt : k < xs.length := by omega
      obtain ⟨h1, h2⟩ := hs s k hlt hi
      rw [loopM_eq, h1, List.drop_eq_getElem_cons hlt]
      exact ih (k + 1) _ (by omega) h2
  have := key xs.length 0 s0 (by omega) h0
  simpa using this
/-- A loop in front of something. -/
theorem fold_bind (st : S → Int → T) (g : S → α → S) (Inv : Nat → S → Prop) (fin : S → R) {f : T → Option (T ⊕ R)} {s0 : S} {k : R → Option U} {r : Option U} (h0 : Inv 0 s0)
    (hs : ∀ s i (h : i < xs.length), Inv i s → f (st s (i : Int)) = some (.inl (st (g s xs[i]) ((i + 1 : Nat) : Int))) ∧ Inv (i + 1) (g s xs[i]))
    (he : ∀ s, Inv xs.length s → f (st s (xs.length : Int)) = some (.inr (fin s)))
    (hk : Inv xs.length (xs.foldl g s0) → k (fin (xs.foldl g s0)) = r) : (loopM f (st s0 0)).bind k = r := by
  obtain ⟨h1, h2⟩ := loop_fold st g Inv (fin := fin) h0 hs he
  rw [h1]; exact hk h2
end

/-! ## Valid stores as lists that ascend -/
theorem okFrom_iff {l : List Item} : ∀ {p : Int}, okFrom p l = true ↔ (∀ x ∈ l, isItem x = true ∧ p < x.1) ∧ l.Pairwise (fun x y => x.1 < y.1) := by
  induction l with
  | nil => intro p; simp [okFrom]
  | cons x l ih =>
    intro p
    simp only [okFrom, Bool.and_eq_true, decide_eq_true_eq, ih, List.pairwise_cons, List.mem_cons, forall_eq_or_imp]
    constructor
    · rintro ⟨⟨h1, h2⟩, h3, h4⟩
      exact ⟨⟨⟨h1, h2⟩, fun y hy => ⟨(h3 y hy).1, by have := (h3 y hy).2; omega⟩⟩, fun y hy => (h3 y hy).2, h4⟩
    · rintro ⟨⟨⟨h1, h2⟩, h3⟩, h4, h5⟩
      exact ⟨⟨h1, h2⟩, fun y hy => ⟨(h3 y hy).1, h4 y hy⟩, h5⟩
theorem isItem_iff {x : Item} : isItem x = true ↔ (1 ≤ x.1 ∧ x.1 ≤ 99) ∧ isVec x.2.1 = true ∧ 0 ≤ x.2.2 ∧ x.2.2 ≤ 15 := by
  unfold isItem; simp only [Bool.and_eq_true, decide_eq_true_eq]
theorem okStore_iff {l : List Item} : okStore l = true ↔ l.length ≤ 16 ∧ (∀ x ∈ l, isItem x = true) ∧ l.Pairwise (fun x y => x.1 < y.1) := by
  unfold okStore
  simp only [Bool.and_eq_true, decide_eq_true_eq, okFrom_iff]
  constructor
  · rintro ⟨h1, h2, h3⟩; exact ⟨h1, fun x hx => (h2 x hx).1, h3⟩
  · rintro ⟨h1, h2, h3⟩; exact ⟨h1, fun x hx => ⟨h2 x hx, by have := (isItem_iff.1 (h2 x hx)).1.1; omega⟩, h3⟩
theorem isItem_len {x : Item} (h : isItem x = true) : x.2.1.length = 4 := (isVec_iff.1 (isItem_iff.1 h).2.1).1

/-- A list of items that is small enough to be looked at. -/
def SmallS (l : List Item) : Prop := l.length ≤ 1048576 ∧ ∀ x ∈ l, x.2.1.length ≤ 1048576
theorem SmallS.hb {l : List Item} (h : SmallS l) : ∀ x ∈ l, x.2.1.length < 2000000 := fun x hx => by have := h.2 x hx; omega
theorem SmallS.hL {l : List Item} (h : SmallS l) : l.length < 2000000 := by have := h.1; omega
theorem SmallS.impl {l : List Item} (h : SmallS l) : M.impl_ValidStore l = some (okStore l) := implStore_ok h.hb
theorem SmallS.specv {l : List Item} (h : SmallS l) : M.spec_validStore l = some (okStore l) := specStore_ok h.hb h.hL
/-! ## Putting -/
/-! ## Draws -/
/-- An item that may be drawn. -/
def NearI (x : Item) : Prop := (0 ≤ x.1 ∧ x.1 ≤ 100) ∧ Near x.2.1 ∧ -1 ≤ x.2.2 ∧ x.2.2 ≤ 16
end Go.Vs

namespace Go.Vs

end Go.Vs

namespace Go.Vs

section
variable {α S T R U : Type} {xs : List α}
/-- A loop that begins at a later element, in front of something. -/
theorem fold_bindK (k : Nat) {k' : Int} (hk' : k' = (k : Int)) (st : S → Int → T) (g : S → α → S) (Inv : Nat → S → Prop) (fin : S → R) {f : T → Option (T ⊕ R)} {s0 : S} {c : R → Option U} {r : Option U} (hkl : k ≤ xs.length) (h0 : Inv k s0)
    (hs : ∀ s i (h : i < xs.length), k ≤ i → Inv i s → f (st s (i : Int)) = some (.inl (st (g s xs[i]) ((i + 1 : Nat) : Int))) ∧ Inv (i + 1) (g s xs[i]))
    (he : ∀ s, Inv xs.length s → f (st s (xs.length : Int)) = some (.inr (fin s)))
    (hk : Inv xs.length ((xs.drop k).foldl g s0) → c (fin ((xs.drop k).foldl g s0)) = r) : (loopM f (st s0 k')).bind c = r := by
  have key : ∀ m i : Nat, ∀ s, i + m = xs.length → k ≤ i → Inv i s → loopM f (st s (i : Int)) = some (fin ((xs.drop i).foldl g s)) ∧ Inv xs.length ((xs.drop i).foldl g s) := by
    intro m
    induction m with
    | zero =>
      intro i s hm _ hi
      have : i = xs.length := by omega
      subst this
      rw [loopM_eq, he s hi]; simpa [selim] using hi
    | succ m ih =>
      intro i s hm hki hi
      have hlt : i < xs.length := by omega
      obtain ⟨h1, h2⟩ := hs s i hlt hki hi
      rw [loopM_eq, h1, List.drop_eq_getElem_cons hlt]
      exact ih (i + 1) _ (by omega) (by omega) h2
  obtain ⟨h1, h2⟩ := key (xs.length - k) k s0 (by omega) (Nat.le_refl _) h0
  subst hk'
  rw [h1]; exact hk h2
end

def minV (a b : List Int) : List Int := List.zipWith min a b
def maxV (a b : List Int) : List Int := List.zipWith max a b
theorem fold_low {l : List Item} (h : ∀ x ∈ l, isVec x.2.1 = true) : ∀ {a b c d : Int}, l.foldl (fun s y => minV s y.2.1) [a, b, c, d] = [lowAt 0 a (l.map (·.2.1)), lowAt 1 b (l.map (·.2.1)), lowAt 2 c (l.map (·.2.1)), lowAt 3 d (l.map (·.2.1))] := by
  induction l with
  | nil => intro a b c d; rfl
  | cons x l ih =>
    intro a b c d
    obtain ⟨e, f, g, i, hx, _⟩ := isVec_four (h x (by simp))
    rw [List.foldl_cons, hx]
    simp only [minV, List.zipWith_cons_cons, List.zipWith_nil_left]
    rw [show (fun (s : List Int) (y : Item) => List.zipWith min s y.2.1) = fun s y => minV s y.2.1 from rfl, ih (fun y hy => h y (by simp [hy]))]
    simp only [lowAt, List.map_cons, List.foldl_cons, hx]; rfl
theorem fold_high {l : List Item} (h : ∀ x ∈ l, isVec x.2.1 = true) : ∀ {a b c d : Int}, l.foldl (fun s y => maxV s y.2.1) [a, b, c, d] = [highAt 0 a (l.map (·.2.1)), highAt 1 b (l.map (·.2.1)), highAt 2 c (l.map (·.2.1)), highAt 3 d (l.map (·.2.1))] := by
  induction l with
  | nil => intro a b c d; rfl
  | cons x l ih =>
    intro a b c d
    obtain ⟨e, f, g, i, hx, _⟩ := isVec_four (h x (by simp))
    rw [List.foldl_cons, hx]
    simp only [maxV, List.zipWith_cons_cons, List.zipWith_nil_left]
    rw [show (fun (s : List Int) (y : Item) => List.zipWith max s y.2.1) = fun s y => maxV s y.2.1 from rfl, ih (fun y hy => h y (by simp [hy]))]
    simp only [highAt, List.map_cons, List.foldl_cons, hx]; rfl
def boundsOf (l : List Item) : List Int × List Int × Bool :=
  if okStore l = true then (match l with
    | [] => ([], [], false)
    | x :: r => (r.foldl (fun s y => minV s y.2.1) x.2.1, r.foldl (fun s y => maxV s y.2.1) x.2.1, true)) else ([], [], false)
theorem isItem_vec {x : Item} (h : isItem x = true) : isVec x.2.1 = true := (isItem_iff.1 h).2.1

theorem fold_pair {α A B : Type} (f : A → α → A) (g : B → α → B) (l : List α) : ∀ a b, l.foldl (fun (s : A × B) y => (f s.1 y, g s.2 y)) (a, b) = (l.foldl f a, l.foldl g b) := by
  induction l with
  | nil => intro a b; rfl
  | cons x l ih => intro a b; exact ih _ _
theorem minmax_inv {a b v : List Int} (ha : a.length = 4) (hb : b.length = 4) (hv : v.length = 4) : (minV a v).length = 4 ∧ (maxV b v).length = 4 := by
  simp [minV, maxV, ha, hb, hv]
theorem four {v : List Int} (h : v.length = 4) : ∃ a b c d, v = [a, b, c, d] := by
  match v, h with
  | [a, b, c, d], _ => exact ⟨a, b, c, d, rfl⟩

theorem implBounds_ok {l : List Item} (h : SmallS l) : M.impl_BoundsOf l = some (boundsOf l) := by
  unfold M.impl_BoundsOf boundsOf
  simp only [h.impl, Option.bind_some]
  cases ho : okStore l with
  | false => simp
  | true =>
    obtain ⟨hlen, hi, _⟩ := okStore_iff.1 ho
    simp only [Bool.not_true, cond_false, Option.bind_some, if_true]
    cases l with
    | nil => rfl
    | cons x r =>
      have e0 : (((x :: r).length : Int) == 0) = false := beq_eq_false_iff_ne.2 (by simp; omega)
      have hx := isItem_vec (hi x (by simp))
      obtain ⟨a, b, c, d, hv, _⟩ := isVec_four hx
      have hr : ∀ y ∈ r, y.2.1.length = 4 := fun y hy => isItem_len (hi y (by simp [hy]))
      simp only [List.length_cons] at hlen
      have eg : gidx (x :: r) 0 = some x := gi0
      have ega : garr 4 x.2.1 = some (x.2.1.take 4) := garr_ok (by rw [hv]; simp)
      have et : x.2.1.take 4 = x.2.1 := List.take_of_length_le (by rw [hv]; simp)
      have egs : gslice (x :: r) 1 ((x :: r).length : Int) = some r := by
        rw [gslice_ok (by omega) (by simp; omega) (by omega)]; simp
      simp only [e0, cond_false, eg, ega, egs, Option.bind_some, et]
      refine fold_bind (xs := r) (fun (s : List Int × List Int) i => (s.1, s.2, i)) (fun s y => (minV s.1 y.2.1, maxV s.2 y.2.1)) (fun i s => s.1.length = 4 ∧ s.2.length = 4) (fun s => (s.1, s.2)) (s0 := (x.2.1, x.2.1)) (by rw [hv]; simp) ?_ ?_ ?_
      · rintro ⟨lo, hg⟩ i hi ⟨h1, h2⟩
        have e1 : decide ((i : Int) < (r.length : Int)) = true := decide_eq_true (by omega)
        have hy := hr r[i] (List.getElem_mem _)
        simp only at h1 h2
        refine ⟨?_, minmax_inv h1 h2 hy⟩
        simp only [e1, cond_true, gidx_nat hi, Option.bind_some, w64_succ (i := i) (by omega)]
        generalize r[i] = y at hy
        obtain ⟨a0, a1, a2, a3, rfl⟩ := four h1
        obtain ⟨b0, b1, b2, b3, rfl⟩ := four h2
        obtain ⟨ky, v, ty⟩ := y
        obtain ⟨c0, c1, c2, c3, rfl⟩ := four hy
        rw [loop4 (s1 := ([min a0 c0, a1, a2, a3], [max b0 c0, b1, b2, b3], 1)) (s2 := ([min a0 c0, min a1 c1, a2, a3], [max b0 c0, max b1 c1, b2, b3], 2)) (s3 := ([min a0 c0, min a1 c1, min a2 c2, a3], [max b0 c0, max b1 c1, max b2 c2, b3], 3)) (s4 := ([min a0 c0, min a1 c1, min a2 c2, min a3 c3], [max b0 c0, max b1 c1, max b2 c2, max b3 c3], 4)) (r := ([min a0 c0, min a1 c1, min a2 c2, min a3 c3], [max b0 c0, max b1 c1, max b2 c2, max b3 c3]))]
        · rfl
        · simp only [l4, d04, cond_true, gi0, Option.bind_some, i01]; rfl
        · simp only [l4, d14, cond_true, gi1, Option.bind_some, i12]; rfl
        · simp only [l4, d24, cond_true, gi2, Option.bind_some, i23]; rfl
        · simp only [l4, d34, cond_true, gi3, Option.bind_some, i34]; rfl
        · simp only [l4, d44, cond_false]
      · intro s _; simp
      · intro _
        rw [fold_pair (fun s (y : Item) => minV s y.2.1) (fun s (y : Item) => maxV s y.2.1)]
theorem specBounds_ok {l : List Item} (h : SmallS l) : M.spec_BoundsOf l = some (boundsOf l) := by
  unfold M.spec_BoundsOf boundsOf
  simp only [h.specv, Option.bind_some]
  cases ho : okStore l with
  | false => simp
  | true =>
    obtain ⟨hlen, hi, _⟩ := okStore_iff.1 ho
    simp only [Bool.not_true, cond_false, Option.bind_some, if_true]
    cases l with
    | nil => rfl
    | cons x r =>
      have e0 : (((x :: r).length : Int) == 0) = false := beq_eq_false_iff_ne.2 (by simp; omega)
      have hx := isItem_vec (hi x (by simp))
      obtain ⟨a, b, c, d, hv, _⟩ := isVec_four hx
      have hr : ∀ y ∈ x :: r, y.2.1.length = 4 := fun y hy => isItem_len (hi y hy)
      have eg : gidx (x :: r) 0 = some x := gi0
      have ec : M.spec_copyInts x.2.1 = some x.2.1 := copy_ok (by rw [hv]; simp)
      simp only [e0, cond_false, eg, ec, Option.bind_some]
      refine fold_bindK (xs := x :: r) 1 (by rfl) (fun (s : List Int × List Int) i => (s.1, s.2, i)) (fun s y => (minV s.1 y.2.1, maxV s.2 y.2.1)) (fun i s => s.1.length = 4 ∧ s.2.length = 4) (fun s => (s.1, s.2)) (s0 := (x.2.1, x.2.1)) (by simp) (by rw [hv]; simp) ?_ ?_ ?_
      · rintro ⟨lo, hg⟩ i hi _ ⟨h1, h2⟩
        have e1 : decide ((i : Int) < ((x :: r).length : Int)) = true := decide_eq_true (by omega)
        have hy := hr (x :: r)[i] (List.getElem_mem _)
        simp only at h1 h2
        refine ⟨?_, minmax_inv h1 h2 hy⟩
        simp only [e1, cond_true, gidx_nat hi, Option.bind_some, w64_succ (i := i) (by omega)]
        generalize (x :: r)[i] = y at hy
        obtain ⟨a0, a1, a2, a3, rfl⟩ := four h1
        obtain ⟨b0, b1, b2, b3, rfl⟩ := four h2
        obtain ⟨ky, v, ty⟩ := y
        obtain ⟨c0, c1, c2, c3, rfl⟩ := four hy
        rw [loop4 (s1 := ([min a0 c0, a1, a2, a3], [max b0 c0, b1, b2, b3], 1)) (s2 := ([min a0 c0, min a1 c1, a2, a3], [max b0 c0, max b1 c1, b2, b3], 2)) (s3 := ([min a0 c0, min a1 c1, min a2 c2, a3], [max b0 c0, max b1 c1, max b2 c2, b3], 3)) (s4 := ([min a0 c0, min a1 c1, min a2 c2, min a3 c3], [max b0 c0, max b1 c1, max b2 c2, max b3 c3], 4)) (r := ([min a0 c0, min a1 c1, min a2 c2, min a3 c3], [max b0 c0, max b1 c1, max b2 c2, max b3 c3]))]
        · rfl
        · simp only [d04, cond_true, gi0, Option.bind_some, i01]; rfl
        · simp only [d14, cond_true, gi1, Option.bind_some, i12]; rfl
        · simp only [d24, cond_true, gi2, Option.bind_some, i23]; rfl
        · simp only [d34, cond_true, gi3, Option.bind_some, i34]; rfl
        · simp only [d44, cond_false]
      · intro s _; simp
      · intro _
        rw [show List.drop 1 (x :: r) = r from rfl, fold_pair (fun s (y : Item) => minV s y.2.1) (fun s (y : Item) => maxV s y.2.1)]

/-- What the bounds are. -/
theorem bounds_vec {l : List Item} {x : Item} {r : List Item} (hl : l = x :: r) (ho : okStore l = true) :
    ∃ a b c d e f g i, (∀ k, (h : k < 4) → [a, b, c, d][k] = lowAt k (x.2.1.getD k 0) (r.map (·.2.1)) ∧ [e, f, g, i][k] = highAt k (x.2.1.getD k 0) (r.map (·.2.1))) ∧ boundsOf l = ([a, b, c, d], [e, f, g, i], true) := by
  obtain ⟨_, hi, _⟩ := okStore_iff.1 ho
  subst hl
  obtain ⟨a, b, c, d, hv, _⟩ := isVec_four (isItem_vec (hi x (by simp)))
  have hr : ∀ y ∈ r, isVec y.2.1 = true := fun y hy => isItem_vec (hi y (by simp [hy]))
  refine ⟨lowAt 0 a (r.map (·.2.1)), lowAt 1 b (r.map (·.2.1)), lowAt 2 c (r.map (·.2.1)), lowAt 3 d (r.map (·.2.1)), highAt 0 a (r.map (·.2.1)), highAt 1 b (r.map (·.2.1)), highAt 2 c (r.map (·.2.1)), highAt 3 d (r.map (·.2.1)), ?_, ?_⟩
  · intro k hk
    have : k = 0 ∨ k = 1 ∨ k = 2 ∨ k = 3 := by omega
    rcases this with rfl | rfl | rfl | rfl <;> simp [hv]
  · unfold boundsOf
    rw [if_pos ho]
    simp only [hv, fold_low hr, fold_high hr]
theorem bounds_false {l : List Item} : (boundsOf l).2.2 = false ∨ ∃ x r, l = x :: r ∧ okStore l = true := by
  unfold boundsOf
  by_cases ho : okStore l = true
  · rw [if_pos ho]
    cases l with
    | nil => exact .inl rfl
    | cons x r => exact .inr ⟨x, r, rfl, ho⟩
  · rw [if_neg ho]; exact .inl rfl
theorem bounds_len {l : List Item} : (boundsOf l).1.length < 2000000 ∧ (boundsOf l).2.1.length < 2000000 := by
  rcases bounds_false (l := l) with h | ⟨x, r, hl, ho⟩
  · unfold boundsOf at h ⊢
    split at h
    · split at h
      · simp
      · cases h
    · rename_i hn; simp [hn]
  · obtain ⟨a, b, c, d, e, f, g, i, _, hb⟩ := bounds_vec hl ho
    rw [hb]; simp

end Go.Vs

namespace Go.Vs

/-! ## InBox -/
end Go.Vs

namespace Go.Vs

end Go.Vs

namespace Go.Vs

/-! ## What is drawn -/
theorem NearI.le {x : Item} (h : NearI x) : x.2.1.length ≤ 1048576 := by have := h.2.1.1; omega
section
variable {code : List UInt8}
end
end Go.Vs

namespace Go.Vs

end Go.Vs

namespace Go.Vs

/-- k, k + 1, .. -/
def upFrom (k : Int) (n : Nat) : List Int := (List.range n).map fun i : Nat => k + (i : Int)
theorem upFrom_len {k : Int} {n : Nat} : (upFrom k n).length = n := by simp [upFrom]
theorem upFrom_get {k : Int} {n i : Nat} (h : i < (upFrom k n).length) : (upFrom k n)[i] = k + (i : Int) := by simp [upFrom]
theorem markIntS_ok {a : List Int} {k : Int} (ha : a.length < 2000000) (h0 : 0 ≤ k) (h1 : k ≤ 2000000000000000) : M.laws_markIntS a k = some (k + (a.length : Int), upFrom k a.length) := by
  unfold M.laws_markIntS
  have hloop := loop_run (R := List Int × Int) (f := fun (s2 : (List Int) × (Int) × (Int)) => (bif decide (s2.2.2 < (s2.1.length : Int)) then
  (gidx s2.1 s2.2.2).bind fun x6 =>
  some (.inl ((s2.1.set s2.2.2.toNat s2.2.1), w64 (s2.2.1 + 1), w64 (s2.2.2 + 1)))
 else
  some (.inr (s2.1, s2.2.1)))) (r := (upFrom k a.length, k + (a.length : Int))) a.length (fun i => (upFrom k i ++ a.drop i, k + (i : Int), (i : Int))) (by
    intro i hi
    have hl : (upFrom k i ++ a.drop i).length = a.length := by rw [List.length_append, upFrom_len, List.length_drop]; omega
    have e1 : decide ((i : Int) < ((upFrom k i ++ a.drop i).length : Int)) = true := decide_eq_true (by omega)
    have e2 : w64 ((i : Int) + 1) = ((i + 1 : Nat) : Int) := w64_id (by omega) (by omega)
    have e3 : w64 (k + (i : Int) + 1) = k + ((i + 1 : Nat) : Int) := by rw [w64_id (by omega) (by omega)]; omega
    have hl' : i < (upFrom k i ++ a.drop i).length := by omega
    simp only [e1, cond_true, gidx_nat hl', Option.bind_some, e2, e3, Int.toNat_natCast, Option.some.injEq, Sum.inl.injEq, Prod.mk.injEq, and_true]
    rw [List.set_append_right _ _ (by rw [upFrom_len]; omega), upFrom_len, Nat.sub_self, List.drop_eq_getElem_cons hi, List.set_cons_zero]
    simp [upFrom, List.range_succ]) (by
    have e1 : decide (((a.length : Nat) : Int) < ((upFrom k a.length ++ a.drop a.length).length : Int)) = false := decide_eq_false (by rw [List.length_append, upFrom_len]; simp)
    simp only [List.drop_length, List.append_nil] at e1 ⊢
    simp only [e1, cond_false])
  simp only [upFrom, List.range_zero, List.map_nil, List.nil_append, List.drop_zero, Int.cast_ofNat_Int, Int.add_zero] at hloop
  rw [hloop]; rfl
theorem heldIntS_ok {n : Nat} {k : Int} (ha : n < 2000000) (h0 : 0 ≤ k) (h1 : k ≤ 2000000000000000) : M.laws_heldIntS (upFrom k n) k = some (k + (n : Int)) := by
  unfold M.laws_heldIntS
  have hloop := loop_run (R := Int ⊕ Int) (f := fun (s2 : (Int) × (Int)) => (bif decide (s2.2 < ((upFrom k n).length : Int)) then
  (gidx (upFrom k n) s2.2).bind fun x7 =>
  (bif x7 != s2.1 then
  some (.inr (.inr (-1)))
 else
  some (.inl (w64 (s2.1 + 1), w64 (s2.2 + 1))))
 else
  some (.inr (.inl s2.1)))) (r := .inl (k + (n : Int))) n (fun i => (k + (i : Int), (i : Int))) (by
    intro i hi
    have hl : i < (upFrom k n).length := by rw [upFrom_len]; exact hi
    have e1 : decide ((i : Int) < ((upFrom k n).length : Int)) = true := decide_eq_true (by omega)
    have e2 : w64 ((i : Int) + 1) = ((i + 1 : Nat) : Int) := w64_id (by omega) (by omega)
    have e3 : w64 (k + (i : Int) + 1) = k + ((i + 1 : Nat) : Int) := by rw [w64_id (by omega) (by omega)]; omega
    simp only [e1, cond_true, gidx_nat hl, upFrom_get, Option.bind_some, e2, e3, bne_self_eq_false, cond_false]) (by
    have e1 : decide ((n : Int) < ((upFrom k n).length : Int)) = false := decide_eq_false (by rw [upFrom_len]; omega)
    simp only [e1, cond_false])
  simp only [Int.cast_ofNat_Int, Int.add_zero] at hloop
  rw [hloop]; rfl
end Go.Vs

namespace Go.Vs

theorem dItemS_ok {a : List Item} (h : a.length ≤ 1048576) (hx : ∀ x ∈ a, x.2.1.length ≤ 1048576) : M.dItemS a = some a := by
  unfold M.dItemS
  rw [if_pos ⟨by omega, fun x hx' => toIntS_ok (hx x hx')⟩]
theorem dmarkItemS_ok : ∀ (a : List Item) (k : Int), (∀ x ∈ a, x.2.1.length ≤ 1048576) → 0 ≤ k → k + a.length * 1048578 ≤ 1999999999999990 → ∃ r, M.dmarkItemS a k = some r ∧ k ≤ r ∧ r ≤ k + a.length * 1048578
  | [], k, _, _, _ => ⟨k, rfl, Int.le_refl _, by simp⟩
  | x :: a, k, hx, h0, h1 => by
    have hl := hx x (by simp)
    have h2 : ((x :: a).length : Int) = a.length + 1 := by simp
    rw [h2] at h1
    have e1 : w64 (k + 1) = k + 1 := w64_id (by omega) (by omega)
    have hm := markIntS_ok (a := x.2.1) (k := k + 1) (by omega) (by omega) (by omega)
    have e2 : w64 (k + 1 + (x.2.1.length : Int) + 1) = k + 1 + (x.2.1.length : Int) + 1 := w64_id (by omega) (by omega)
    obtain ⟨r, hr, g1, g2⟩ := dmarkItemS_ok a (k + 1 + (x.2.1.length : Int) + 1) (fun y hy => hx y (by simp [hy])) (by omega) (by omega)
    refine ⟨r, ?_, by omega, by rw [h2]; omega⟩
    simp only [M.dmarkItemS, e1, hm, Option.bind_some, e2, hr]
theorem markItemD_ok {a : List Item} (h : a.length ≤ 1048576) (hx : ∀ x ∈ a, x.2.1.length ≤ 1048576) : ∃ r, M.markItemD a 1 = some r ∧ 1 ≤ r ∧ r ≤ 1100000000000 := by
  obtain ⟨r, hr, h1, h2⟩ := dmarkItemS_ok a 1 hx (by omega) (by omega)
  refine ⟨r, ?_, h1, by omega⟩
  unfold M.markItemD
  rw [if_pos (by omega), hr]
theorem one0 : (0 : Int) ≤ 1 := by omega
theorem one1 : (1 : Int) ≤ 2000000000000000 := by omega

theorem law_ExactBoundsOf (l : List Item) (ha : l.length ≤ 9223372036854775807 ∧ ∀ x ∈ l, (True ∧ ((x.2.1.length ≤ 9223372036854775807 ∧ ∀ y ∈ x.2.1, True) ∧ True))) : M.laws_FnExactBoundsOf l = some true := by
  unfold M.laws_FnExactBoundsOf
  obtain ⟨s, es, hs⟩ := szItemS_ok (left := 1048576) ha.1 (fun x hx => (ha.2 x hx).2.1.1) (by omega) (by omega)
  simp only [es, Option.bind_some]
  rcases hs with hs | ⟨h0, h1, h2⟩
  · simp [hs]
  have hn : ¬ s < 0 := by omega
  have hb : ∀ x ∈ l, x.2.1.length < 2000000 := fun x hx => by have := h2 x hx; omega
  have ss : SmallS l := ⟨by omega, h2⟩
  have lm := (bounds_len (l := l)).1
  have ln := (bounds_len (l := l)).2
  obtain ⟨k, hk, k1, k2⟩ := markItemD_ok h1 h2
  have hn1 : ¬ k < 0 := by omega
  have hn2 : ¬ (1 + ((boundsOf l).1.length : Int)) < 0 := by omega
  have hn3 : ¬ (1 + ((boundsOf l).1.length : Int) + ((boundsOf l).2.1.length : Int)) < 0 := by omega
  simp only [hn, decide_false, cond_false, dItemS_ok h1 h2, Option.bind_some, implBounds_ok ss, specBounds_ok ss, eqIntS_ok lm, eqIntS_ok ln, eqItemS_self (show l.length < 2000000 by omega) hb, decide_true, Bool.not_true, bne_self_eq_false, hk, hn1, markIntS_ok lm one0 one1, markIntS_ok (k := 1 + ((boundsOf l).1.length : Int)) ln (by omega) (by omega), heldIntS_ok lm one0 one1, heldIntS_ok (k := 1 + ((boundsOf l).1.length : Int)) ln (by omega) (by omega), hn2, hn3]

end Go.Vs
