/- The closest pair of a store with one item less. -/
import Derived.Test.YtcgkbgidfilodaaLibM8
import Derived.Test.YtcgkbgidfilodaaVsQ4
import Derived.Test.YtcgkbgidfilodaaVsQ5
set_option linter.unusedVariables false
set_option linter.unusedSimpArgs false
namespace Go.Vs

theorem pairsOf_filter {α : Type} (q : α → Bool) (l : List α) : pairsOf (l.filter q) = (pairsOf l).filter fun p => q p.1 && q p.2 := by
  induction l with
  | nil => rfl
  | cons x r ih =>
    simp only [pairsOf, List.filter_append, ← ih]
    by_cases hx : q x = true
    · rw [List.filter_cons_of_pos hx, pairsOf, List.filter_map]
      congr 1
      simp [Function.comp_def, hx]
    · rw [List.filter_cons_of_neg hx]
      have : (List.map (fun y => (x, y)) r).filter (fun p => q p.1 && q p.2) = [] := by
        rw [List.filter_eq_nil_iff]
        intro p hp
        obtain ⟨y, _, rfl⟩ := List.mem_map.1 hp
        simp [hx]
      rw [this, List.nil_append]
theorem closest_drop {l : List Item} {k : Int} {p : Item × Item} {x : Item} (h : closest l k = some p) (hk : (l.any fun y => y.1 == x.1) = true) (h1 : x.1 ≠ p.1.1) (h2 : x.1 ≠ p.2.1) : closest (dropS l x.1) k = some p := by
  obtain ⟨ho, hkind, hp, _⟩ := closest_some h
  have ho2 : okStore (dropS l x.1) = true := okStore_sub ho dropS_sub
  unfold closest at h ⊢
  rw [if_pos ⟨ho, hkind⟩] at h
  rw [if_pos ⟨ho2, hkind⟩]
  have e : pairsOf (dropS l x.1) = (pairsOf l).filter fun p => (p.1.1 != x.1) && (p.2.1 != x.1) := pairsOf_filter _ l
  rw [e]
  cases hq : pairsOf l with
  | nil => rw [hq] at hp; cases hp
  | cons a m =>
    rw [hq] at h
    simp only [Option.some.injEq] at h
    obtain ⟨A, B, e1, k1, k2⟩ := pickMin_split (pdist k) m a
    rw [h] at e1 k1 k2
    rw [e1]
    have hpp : ((p.1.1 != x.1) && (p.2.1 != x.1)) = true := by simp [Ne.symm h1, Ne.symm h2]
    have hf : (A ++ p :: B).filter (fun p => (p.1.1 != x.1) && (p.2.1 != x.1)) = A.filter (fun p => (p.1.1 != x.1) && (p.2.1 != x.1)) ++ p :: B.filter (fun p => (p.1.1 != x.1) && (p.2.1 != x.1)) := by
      rw [List.filter_append, List.filter_cons_of_pos (p := fun (p : Item × Item) => (p.1.1 != x.1) && (p.2.1 != x.1)) hpp]
    have k1' : ∀ x' ∈ A.filter (fun p => (p.1.1 != x.1) && (p.2.1 != x.1)), pdist k p < pdist k x' := fun y hy => k1 y (List.mem_filter.1 hy).1
    have k2' : ∀ x' ∈ B.filter (fun p => (p.1.1 != x.1) && (p.2.1 != x.1)), pdist k p ≤ pdist k x' := fun y hy => k2 y (List.mem_filter.1 hy).1
    rw [hf]
    generalize A.filter (fun p => (p.1.1 != x.1) && (p.2.1 != x.1)) = A' at *
    generalize B.filter (fun p => (p.1.1 != x.1) && (p.2.1 != x.1)) = B' at *
    cases A' with
    | nil => exact congrArg some (pickMin_uniq (A := []) rfl (by simp) k2')
    | cons c A' => exact congrArg some (pickMin_uniq (A := c :: A') rfl k1' k2')
theorem law_ClosestPairDrop (code : List UInt8) : M.laws_FnClosestPairDrop code = some true := by
  unfold M.laws_FnClosestPairDrop
  by_cases hc : 1048576 < (code.length : Int)
  · simp [hc]
  obtain ⟨l, k, h, n⟩ := drawPair_ok code
  have s := n.small
  simp only [hc, decide_false, cond_false, h, Option.bind_some, implClosest_ok s, specClosest_ok s, bne_self_eq_false, BEq.rfl, cond_true]
  cases hcl : closest l k with
  | none => simp [closestPair, hcl]
  | some p =>
    have hcp : closestPair l k = (p.1.1, p.2.1, true) := by unfold closestPair; rw [hcl]
    obtain ⟨ho, hk, hp, _⟩ := closest_some hcl
    obtain ⟨hlen, hit, hpw⟩ := okStore_iff.1 ho
    simp only [hcp, Bool.not_true, cond_false]
    have e0 : (0 : Int) = ((0 : Nat) : Int) := rfl
    rw [e0, loop_pass (n := l.length) (r := .inl ()) 0 (by omega)]
    · rfl
    · intro i _ hi
      have e1 : decide ((i : Int) < (l.length : Int)) = true := decide_eq_true (by omega)
      simp only [e1, cond_true, gidx_nat hi, Option.bind_some, w64_succ (i := i) (by omega)]
      by_cases c1 : l[i].1 = p.1.1
      · simp [c1, selim]
      by_cases c2 : l[i].1 = p.2.1
      · simp [c1, c2, selim]
      have b1 : (l[i].1 == p.1.1) = false := beq_eq_false_iff_ne.2 c1
      have b2 : (l[i].1 == p.2.1) = false := beq_eq_false_iff_ne.2 c2
      have hany : (l.any fun y => y.1 == l[i].1) = true := List.any_eq_true.2 ⟨l[i], List.getElem_mem hi, by simp⟩
      have hd := dropItem_of (k := l[i].1) ho hany
      have ho2 : okStore (dropS l l[i].1) = true := okStore_sub ho dropS_sub
      have hcl2 := closest_drop (x := l[i]) hcl hany c1 c2
      have hcp2 : closestPair (dropS l l[i].1) k = (p.1.1, p.2.1, true) := by unfold closestPair; rw [hcl2]
      simp only [b1, b2, cond_false, Option.bind_some, implDropItem_ok s, hd, implClosest_ok (okStore_small ho2), hcp2, Bool.not_true, bne_self_eq_false, selim]
    · simp
end Go.Vs
