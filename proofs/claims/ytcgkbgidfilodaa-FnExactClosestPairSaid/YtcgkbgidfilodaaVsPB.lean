/- Valid stores. -/
import Derived.Test.YtcgkbgidfilodaaVsPA
set_option linter.unusedVariables false
set_option linter.unusedSimpArgs false
namespace Go.Vs

abbrev Item := Int × (List Int) × Int
/-- A valid item. -/
def isItem (x : Item) : Bool := (decide (1 ≤ x.1) && decide (x.1 ≤ 99)) && (isVec x.2.1 && (decide (0 ≤ x.2.2) && decide (x.2.2 ≤ 15)))
/-- Valid items, with ascending keys above p. -/
def okFrom : Int → List Item → Bool
  | _, [] => true
  | p, x :: l => (isItem x && decide (p < x.1)) && okFrom x.1 l
def okStore (l : List Item) : Bool := decide (l.length ≤ 16) && okFrom 0 l

theorem implItem_ok {x : Item} (h : x.2.1.length < 2000000) : M.impl_validItem (x.1, x.2.1, x.2.2) = some (isItem x) := by
  unfold M.impl_validItem M.impl_validKey isItem
  simp only [impl_valid x.2.1 h, Option.bind_some]
  by_cases h1 : 1 ≤ x.1
  · by_cases h2 : x.1 ≤ 99
    · by_cases h3 : isVec x.2.1 = true
      · by_cases h4 : 0 ≤ x.2.2
        · simp [h1, h2, h3, h4]
        · simp [h1, h2, h3, h4]
      · simp only [Bool.not_eq_true] at h3
        simp [h1, h2, h3]
    · simp [h1, h2]
  · simp [h1]
theorem specItem_ok {x : Item} (h : x.2.1.length < 2000000) : M.spec_validItem (x.1, x.2.1, x.2.2) = some (isItem x) := by
  unfold M.spec_validItem isItem
  simp only [spec_inR, spec_isVec x.2.1 h, Option.bind_some]
  cases (decide (1 ≤ x.1) && decide (x.1 ≤ 99)) <;> cases isVec x.2.1 <;> simp

theorem implStore_ok {l : List Item} (hb : ∀ x ∈ l, x.2.1.length < 2000000) : M.impl_ValidStore l = some (okStore l) := by
  unfold M.impl_ValidStore okStore
  by_cases hl : 16 < (l.length : Int)
  · have : ¬ l.length ≤ 16 := by omega
    simp [hl, this]
  have hl' : l.length ≤ 16 := by omega
  simp only [hl, decide_false, cond_false, hl', decide_true, Bool.true_and]
  have key : ∀ m k : Nat, ∀ p : Int, k + m = l.length → loopM (fun (s3 : (Int) × (Int)) => (bif decide (s3.2 < (l.length : Int)) then
  (gidx l s3.2).bind fun x8 =>
  Option.bind ((M.impl_validItem (x8.1, x8.2.1, x8.2.2)).bind fun r30 =>
  (bif !r30 then
  some true
 else
  some (decide (x8.1 ≤ s3.1)))) fun o29 =>
  (bif o29 then
  some (.inr (.inr false))
 else
  some (.inl (x8.1, w64 (s3.2 + 1))))
 else
  some (.inr (.inl ())))) (p, (k : Int)) = some (if okFrom p (l.drop k) then (.inl () : Unit ⊕ Bool) else .inr false) := by
    intro m
    induction m with
    | zero =>
      intro k p hk
      have : k = l.length := by omega
      subst this
      rw [loopM_eq]; simp [selim, okFrom]
    | succ m ih =>
      intro k p hk
      have hlt : k < l.length := by omega
      rw [loopM_eq, List.drop_eq_getElem_cons hlt]
      have e1 : decide ((k : Int) < (l.length : Int)) = true := by simpa using hlt
      have e2 : w64 ((k : Int) + 1) = ((k + 1 : Nat) : Int) := w64_id (by omega) (by omega)
      simp only [e1, cond_true, gidx_nat hlt, Option.bind_some, implItem_ok (hb _ (List.getElem_mem hlt)), e2, okFrom]
      by_cases h1 : isItem l[k] = true
      · by_cases h2 : p < l[k].1
        · have h2' : ¬ l[k].1 ≤ p := by omega
          simp only [h1, h2, h2', Bool.not_true, cond_false, Option.bind_some, decide_false, decide_true, Bool.and_self, Bool.true_and, selim]
          exact ih (k + 1) l[k].1 (by omega)
        · have h2' : l[k].1 ≤ p := by omega
          simp [h1, h2, h2', selim]
      · simp only [Bool.not_eq_true] at h1
        simp [h1, selim]
  have := key l.length 0 0 (by omega)
  simp only [Int.cast_ofNat_Int, List.drop_zero] at this
  rw [this]
  cases okFrom 0 l <;> rfl

/-- The key before a place. -/
def keyBefore (l : List Item) : Nat → Int
  | 0 => 0
  | k + 1 => (l.getD k (0, [], 0)).1
theorem specStore_ok {l : List Item} (hb : ∀ x ∈ l, x.2.1.length < 2000000) (hL : l.length < 2000000) : M.spec_validStore l = some (okStore l) := by
  unfold M.spec_validStore okStore
  have key : ∀ m k : Nat, k + m = l.length → loopM (fun (s2 : (Int)) => (bif decide (s2 < (l.length : Int)) then
  Option.bind ((gidx l s2).bind fun x8 =>
  (M.spec_validItem (x8.1, x8.2.1, x8.2.2)).bind fun r19 =>
  (bif !r19 then
  some true
 else
  (bif decide (0 < s2) then
  (gidx l s2).bind fun x24 =>
  (gidx l (w64 (s2 - 1))).bind fun x29 =>
  some (decide (x24.1 ≤ x29.1))
 else
  some false))) fun o7 =>
  (bif o7 then
  some (.inr (.inr false))
 else
  some (.inl (w64 (s2 + 1))))
 else
  some (.inr (.inl ())))) (k : Int) = some (if okFrom (keyBefore l k) (l.drop k) then (.inl () : Unit ⊕ Bool) else .inr false) := by
    intro m
    induction m with
    | zero =>
      intro k hk
      have : k = l.length := by omega
      subst this
      rw [loopM_eq]; simp [selim, okFrom]
    | succ m ih =>
      intro k hk
      have hlt : k < l.length := by omega
      rw [loopM_eq, List.drop_eq_getElem_cons hlt]
      have e1 : decide ((k : Int) < (l.length : Int)) = true := by simpa using hlt
      have e2 : w64 ((k : Int) + 1) = ((k + 1 : Nat) : Int) := w64_id (by omega) (by omega)
      have hnext : keyBefore l (k + 1) = l[k].1 := by simp [keyBefore, List.getD, hlt]
      have ih' := ih (k + 1) (by omega)
      rw [hnext] at ih'
      simp only [e1, cond_true, gidx_nat hlt, Option.bind_some, specItem_ok (hb _ (List.getElem_mem hlt)), e2, okFrom]
      by_cases h1 : isItem l[k] = true
      · simp only [h1, Bool.not_true, cond_false, Bool.true_and]
        match k, hlt with
        | 0, hlt =>
          have hpos : keyBefore l 0 < l[0].1 := by
            have : 1 ≤ l[0].1 := by
              unfold isItem at h1; simp at h1; exact h1.1.1
            show 0 < _; omega
          have e3 : decide ((0 : Int) < ((0 : Nat) : Int)) = false := rfl
          simp only [e3, cond_false, Option.bind_some, hpos, decide_true, Bool.true_and, selim]
          exact ih'
        | j + 1, hlt =>
          have e3 : decide ((0 : Int) < ((j + 1 : Nat) : Int)) = true := by simp
          have e4 : w64 (((j + 1 : Nat) : Int) - 1) = (j : Int) := by rw [w64_id (by omega) (by omega)]; omega
          have hj : j < l.length := by omega
          have hk : keyBefore l (j + 1) = l[j].1 := by simp [keyBefore, List.getD, hj]
          simp only [e3, cond_true, e4, gidx_nat hj, Option.bind_some, hk]
          by_cases h2 : l[j].1 < l[j + 1].1
          · have h2' : ¬ l[j + 1].1 ≤ l[j].1 := by omega
            simp only [h2, h2', decide_false, decide_true, cond_false, Bool.true_and, selim, Option.bind_some]
            exact ih'
          · have h2' : l[j + 1].1 ≤ l[j].1 := by omega
            simp [h2, h2', selim]
      · simp only [Bool.not_eq_true] at h1
        simp [h1, selim]
  have := key l.length 0 (by omega)
  simp only [Int.cast_ofNat_Int, List.drop_zero] at this
  rw [this]
  show _ = some (decide (l.length ≤ 16) && okFrom 0 l)
  have e : keyBefore l 0 = 0 := rfl
  rw [e]
  by_cases h16 : l.length ≤ 16
  · have : decide ((l.length : Int) ≤ 16) = true := by simp; omega
    cases okFrom 0 l <;> simp [selim, this, h16]
  · have : decide ((l.length : Int) ≤ 16) = false := by simp; omega
    cases okFrom 0 l <;> simp [selim, this, h16]
theorem specValidStore_ok {l : List Item} (hb : ∀ x ∈ l, x.2.1.length < 2000000) (hL : l.length < 2000000) : M.spec_ValidStore l = some (okStore l) := by
  unfold M.spec_ValidStore; rw [specStore_ok hb hL]; rfl
end Go.Vs
