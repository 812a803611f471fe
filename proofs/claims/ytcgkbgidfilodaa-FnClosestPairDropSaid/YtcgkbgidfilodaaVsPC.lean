/- The exact law of ValidStore: what comes in is copied, and the two answers are the same. -/
import Derived.Test.YtcgkbgidfilodaaVsPB
set_option linter.unusedVariables false
set_option linter.unusedSimpArgs false
namespace Go.Vs

theorem szIntS_ok {a : List Int} {left : Int} (ha : a.length ≤ 9223372036854775807) (h0 : 0 ≤ left) (h1 : left ≤ 1048576) :
    ∃ s, M.laws_szIntS a left = some s ∧ (s < 0 ∨ (0 ≤ s ∧ s ≤ left ∧ a.length ≤ 1048576)) := by
  unfold M.laws_szIntS
  rw [w64_id (by omega) (by omega)]
  by_cases h : left - (a.length : Int) < 0
  · exact ⟨-1, by simp [h], .inl (by omega)⟩
  · exact ⟨left - a.length, by simp [h], .inr (by omega)⟩
theorem szItem_ok {x : Item} {left : Int} (ha : x.2.1.length ≤ 9223372036854775807) (h0 : 0 ≤ left) (h1 : left ≤ 1048576) :
    ∃ s, M.laws_szItem x left = some s ∧ (s < 0 ∨ (0 ≤ s ∧ s ≤ left ∧ x.2.1.length ≤ 1048576)) := by
  obtain ⟨s, e, h⟩ := szIntS_ok ha h0 h1
  unfold M.laws_szItem
  simp only [e, Option.bind_some]
  by_cases c : s < 0
  · exact ⟨-1, by simp [c], .inl (by omega)⟩
  · exact ⟨s, by simp [c], h⟩
theorem szItemS_ok {a : List Item} {left : Int} (ha : a.length ≤ 9223372036854775807) (hx : ∀ x ∈ a, x.2.1.length ≤ 9223372036854775807) (h0 : 0 ≤ left) (h1 : left ≤ 1048576) :
    ∃ s, M.laws_szItemS a left = some s ∧ (s < 0 ∨ (0 ≤ s ∧ a.length ≤ 1048576 ∧ ∀ x ∈ a, x.2.1.length ≤ 1048576)) := by
  unfold M.laws_szItemS
  rw [w64_id (by omega) (by omega)]
  by_cases h : left - (a.length : Int) < 0
  · exact ⟨-1, by simp [h], .inl (by omega)⟩
  simp only [h, decide_false, cond_false]
  have hl : a.length ≤ 1048576 := by omega
  have key : ∀ m k : Nat, ∀ l : Int, k + m = a.length → 0 ≤ l → l ≤ 1048576 → ∃ r : Int ⊕ Int, loopM (fun (s3 : (Int) × (Int)) => (bif decide (s3.2 < (a.length : Int)) then
  (gidx a s3.2).bind fun x8 =>
  (M.laws_szItem (x8.1, x8.2.1, x8.2.2) s3.1).bind fun r19 =>
  (bif decide (r19 < 0) then
  some (.inr (.inr (-1)))
 else
  some (.inl (r19, w64 (s3.2 + 1))))
 else
  some (.inr (.inl s3.1)))) (l, (k : Int)) = some r ∧ (r = .inr (-1) ∨ ∃ l', r = .inl l' ∧ 0 ≤ l' ∧ ∀ x ∈ a.drop k, x.2.1.length ≤ 1048576) := by
    intro m
    induction m with
    | zero =>
      intro k l hk hl0 _
      have : k = a.length := by omega
      subst this
      refine ⟨.inl l, ?_, .inr ⟨l, rfl, hl0, by simp⟩⟩
      rw [loopM_eq]; simp [selim]
    | succ m ih =>
      intro k l hk hl0 hl1
      have hlt : k < a.length := by omega
      have e1 : decide ((k : Int) < (a.length : Int)) = true := by simpa using hlt
      have e2 : w64 ((k : Int) + 1) = ((k + 1 : Nat) : Int) := w64_id (by omega) (by omega)
      obtain ⟨s, es, hs⟩ := szItem_ok (x := a[k]) (hx _ (List.getElem_mem hlt)) hl0 hl1
      have es' : M.laws_szItem (a[k].1, a[k].2.1, a[k].2.2) l = some s := es
      rw [loopM_eq]
      simp only [e1, cond_true, gidx_nat hlt, Option.bind_some, es', e2]
      rcases hs with hs | ⟨hs0, hs1, hs2⟩
      · exact ⟨.inr (-1), by simp [hs, selim], .inl rfl⟩
      · obtain ⟨r, hr, hr'⟩ := ih (k + 1) s (by omega) hs0 (by omega)
        refine ⟨r, ?_, ?_⟩
        · have : ¬ s < 0 := by omega
          simp only [this, decide_false, cond_false, selim, Option.bind_some]
          exact hr
        · rcases hr' with hr' | ⟨l', e, h0', hall⟩
          · exact .inl hr'
          · refine .inr ⟨l', e, h0', ?_⟩
            rw [List.drop_eq_getElem_cons hlt]
            intro x hx'
            rcases List.mem_cons.1 hx' with h | h
            · subst h; exact hs2
            · exact hall x h
  obtain ⟨r, hr, hr'⟩ := key a.length 0 (left - a.length) (by omega) (by omega) (by omega)
  simp only [Int.cast_ofNat_Int] at hr
  rw [hr]
  rcases hr' with rfl | ⟨l', rfl, h0', hall⟩
  · exact ⟨-1, rfl, .inl (by omega)⟩
  · exact ⟨l', rfl, .inr ⟨h0', hl, by simpa using hall⟩⟩

theorem copy_loop {α : Type} {a : List α} {z : α} {g : α → Option α} (ha : a.length ≤ 1048576) (hg : ∀ x ∈ a, g x = some x) {f : List α × Int → Option ((List α × Int) ⊕ List α)}
    (hs : ∀ (s : List α) (i : Nat) (h : i < a.length) (h' : i < s.length), g a[i] = some a[i] → f (s, (i : Int)) = some (.inl (s.set i a[i], ((i + 1 : Nat) : Int)))) (he : ∀ s, f (s, (a.length : Int)) = some (.inr s)) :
    loopM f (List.replicate a.length z, 0) = some a := by
  have hloop := loop_run (R := List α) (f := f) (r := a) a.length (fun i => (a.take i ++ List.replicate (a.length - i) z, (i : Int))) (by
    intro i hi
    have hl : i < (a.take i ++ List.replicate (a.length - i) z).length := by simp; omega
    rw [hs _ i hi hl (hg _ (List.getElem_mem hi))]
    have hr : List.replicate (a.length - i) z = z :: List.replicate (a.length - (i + 1)) z := by
      rw [show a.length - i = (a.length - (i + 1)) + 1 by omega, List.replicate_succ]
    rw [List.take_succ_eq_append_getElem hi, hr, List.set_append_right _ _ (by simp; omega)]
    have : i - (a.take i).length = 0 := by simp; omega
    rw [this]; simp only [List.set_cons_zero, List.append_assoc, List.cons_append, List.nil_append]) (by
    rw [he]; simp)
  simpa using hloop
theorem toItem_ok {x : Item} (h : x.2.1.length ≤ 1048576) : M.laws_toItem (x.1, x.2.1, x.2.2) = some x := by
  unfold M.laws_toItem; simp only [toIntS_ok h, Option.bind_some]
theorem toItemS_ok {a : List Item} (h : a.length ≤ 1048576) (hx : ∀ x ∈ a, x.2.1.length ≤ 1048576) : M.laws_toItemS a = some a := by
  unfold M.laws_toItemS
  rw [gmake_ok (by omega) (by omega)]
  simp only [Option.bind_some, Int.toNat_natCast]
  rw [copy_loop (a := a) (g := fun x => M.laws_toItem (x.1, x.2.1, x.2.2)) h (fun x hx' => toItem_ok (hx x hx'))]
  · rfl
  · intro s i hi hi' hg
    have e1 : decide ((i : Int) < (a.length : Int)) = true := by simpa using hi
    have e2 : w64 ((i : Int) + 1) = ((i + 1 : Nat) : Int) := w64_id (by omega) (by omega)
    simp only [e1, cond_true, gidx_nat hi, gidx_nat hi', Option.bind_some, hg, e2, Int.toNat_natCast]
  · intro s; simp
theorem eqItem_self {x : Item} (h : x.2.1.length < 2000000) : M.laws_eqItem (x.1, x.2.1, x.2.2) (x.1, x.2.1, x.2.2) = some true := by
  unfold M.laws_eqItem
  simp only [bne_self_eq_false, cond_false, eqIntS_ok h, decide_true, Bool.not_true, Option.bind_some]
theorem eqItemS_self {a : List Item} (h : a.length < 2000000) (hx : ∀ x ∈ a, x.2.1.length < 2000000) : M.laws_eqItemS a a = some true := by
  unfold M.laws_eqItemS
  simp only [bne_self_eq_false, cond_false]
  rw [loop_all (xs := a) (P := fun _ => true) (r := false)]
  · simp [selim]
  · intro i hi
    have e1 : decide ((i : Int) < (a.length : Int)) = true := by simpa using hi
    have e2 : w64 ((i : Int) + 1) = (i : Int) + 1 := w64_id (by omega) (by omega)
    simp only [e1, cond_true, gidx_nat hi, Option.bind_some, eqItem_self (hx _ (List.getElem_mem hi)), Bool.not_true, cond_false, e2, if_true]
  · simp

theorem law_ExactValidStore (a : List Item) (ha : a.length ≤ 9223372036854775807 ∧ ∀ x ∈ a, (True ∧ ((x.2.1.length ≤ 9223372036854775807 ∧ ∀ y ∈ x.2.1, True) ∧ True))) : M.laws_FnExactValidStore a = some true := by
  unfold M.laws_FnExactValidStore
  obtain ⟨s, es, hs⟩ := szItemS_ok (left := 1048576) ha.1 (fun x hx => (ha.2 x hx).2.1.1) (by omega) (by omega)
  simp only [es, Option.bind_some]
  rcases hs with hs | ⟨h0, h1, h2⟩
  · simp [hs]
  · have hn : ¬ s < 0 := by omega
    have hb : ∀ x ∈ a, x.2.1.length < 2000000 := fun x hx => by have := h2 x hx; omega
    simp only [hn, decide_false, cond_false, toItemS_ok h1 h2, Option.bind_some, specValidStore_ok hb (by omega), implStore_ok hb, bne_self_eq_false, eqItemS_self (by omega) hb, Bool.not_true]
end Go.Vs
