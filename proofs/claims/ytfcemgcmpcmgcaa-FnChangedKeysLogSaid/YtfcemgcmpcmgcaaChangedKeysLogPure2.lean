/- Plain facts of what the functions compute. -/
import Derived.Test.YtfcemgcmpcmgcaaChangedKeysLogPure1
set_option linter.unusedVariables false
set_option linter.unusedSimpArgs false
namespace Go.Vs

/- Changed keys -/
theorem atK_range {x : List Item} (ho : okStore x = true) {k : Int} (h : atK x k ≠ none) : 1 ≤ k ∧ k ≤ 99 := by
  obtain ⟨_, _, hp⟩ := okStore_iff.1 ho
  cases ha : atK x k with
  | none => exact absurd ha h
  | some u =>
    obtain ⟨hu, rfl⟩ := (atK_iff hp).1 ha
    have := key_range ho hu
    omega
theorem mem_chgK {x y : List Item} (ox : okStore x = true) (oy : okStore y = true) {k : Int} : k ∈ chgK x y ↔ atK x k ≠ atK y k := by
  unfold chgK
  rw [List.mem_map]
  constructor
  · rintro ⟨i, hi, rfl⟩
    have := (List.mem_filter.1 hi).2
    simpa using this
  · intro hne
    have hr : 1 ≤ k ∧ k ≤ 99 := by
      by_cases hx : atK x k = none
      · by_cases hy : atK y k = none
        · rw [hx, hy] at hne; exact absurd rfl hne
        · exact atK_range oy hy
      · exact atK_range ox hx
    refine ⟨(k - 1).toNat, List.mem_filter.2 ⟨List.mem_range.2 (by omega), ?_⟩, by omega⟩
    have : (((k - 1).toNat : Nat) : Int) + 1 = k := by omega
    rw [this]
    simpa using hne
theorem chgK_nodup {x y : List Item} : (chgK x y).Nodup := by
  unfold chgK List.Nodup
  rw [List.pairwise_map]
  refine (List.Pairwise.filter _ List.nodup_range).imp fun h => ?_
  intro e; apply h; omega
theorem chgK_len {x y : List Item} : (chgK x y).length ≤ 99 := by
  unfold chgK
  rw [List.length_map]
  refine Nat.le_trans (List.length_filter_le _ _) (by simp)
theorem chgV_len {h : Hist} {a b : Int} : (chgV h a b).length ≤ 99 := by
  unfold chgV
  split
  · exact chgK_len
  · simp
theorem any_mem {l : List Int} {k : Int} : (l.any fun x => x == k) = decide (k ∈ l) := by
  rw [Bool.eq_iff_iff, List.any_eq_true, decide_eq_true_eq]
  constructor
  · rintro ⟨x, hx, he⟩
    rw [← eq_of_beq he]; exact hx
  · intro h; exact ⟨k, h, by simp⟩
theorem mem_logB {x y : List Item} (ox : okStore x = true) (oy : okStore y = true) {k : Int} : k ∈ (logB x y).map (·.2.1) ↔ atK x k ≠ atK y k := by
  obtain ⟨_, _, px⟩ := okStore_iff.1 ox
  obtain ⟨_, _, py⟩ := okStore_iff.1 oy
  unfold logB
  rw [List.map_append, List.mem_append, List.map_map, List.map_map, List.mem_map, List.mem_map]
  constructor
  · rintro (⟨u, hu, rfl⟩ | ⟨v, hv, rfl⟩)
    · obtain ⟨h1, h2⟩ := List.mem_filter.1 hu
      show atK x u.1 ≠ atK y u.1
      rw [hasK_at] at h2
      rw [(atK_iff px).2 ⟨h1, rfl⟩]
      cases hy : atK y u.1 with
      | none => simp
      | some w => simp [hy] at h2
    · obtain ⟨h1, h2⟩ := List.mem_filter.1 hv
      show atK x v.1 ≠ atK y v.1
      rw [(atK_iff py).2 ⟨h1, rfl⟩]
      simpa using h2
  · intro hne
    cases hy : atK y k with
    | some v =>
      obtain ⟨hv, rfl⟩ := (atK_iff py).1 hy
      refine .inr ⟨v, List.mem_filter.2 ⟨hv, ?_⟩, rfl⟩
      rw [hy] at hne
      simpa using hne
    | none =>
      cases hx : atK x k with
      | none => rw [hx, hy] at hne; exact absurd rfl hne
      | some u =>
        obtain ⟨hu, rfl⟩ := (atK_iff px).1 hx
        refine .inl ⟨u, List.mem_filter.2 ⟨hu, ?_⟩, rfl⟩
        rw [hasK_at, hy]; rfl
theorem same_len {a b : List Int} (ha : a.Nodup) (hb : b.Nodup) (h : ∀ k, k ∈ a ↔ k ∈ b) : a.length = b.length :=
  ((List.perm_ext_iff_of_nodup ha hb).2 h).length_eq
theorem logB_chgK {x y : List Item} (ox : okStore x = true) (oy : okStore y = true) : (logB x y).length = (chgK x y).length := by
  have := same_len (logB_nodup ox oy) (chgK_nodup (x := x) (y := y)) fun k => by rw [mem_logB ox oy, mem_chgK ox oy]
  rwa [List.length_map] at this
end Go.Vs

namespace Go.Vs

theorem chgV_some {h : Hist} {a b : Int} (hz : ¬ (chgV h a b).length = 0) : okHi h = true ∧ (0 ≤ a ∧ a ≤ 1000) ∧ (0 ≤ b ∧ b ≤ 1000) ∧ chgV h a b = chgK (storeAt h a) (storeAt h b) := by
  unfold chgV at hz ⊢
  by_cases q : okHi h = true ∧ (0 ≤ a ∧ a ≤ 1000) ∧ 0 ≤ b ∧ b ≤ 1000
  · exact ⟨q.1, q.2.1, q.2.2, if_pos q⟩
  · rw [if_neg q] at hz; exact absurd rfl hz
theorem chgV_lt {h : Hist} {a b : Int} : (chgV h a b).length < 2000000 := by have := chgV_len (h := h) (a := a) (b := b); omega
theorem law_ChangedKeysLog (code : List UInt8) : M.laws_FnChangedKeysLog code = some true := by
  unfold M.laws_FnChangedKeysLog
  by_cases hc : 1048576 < (code.length : Int)
  · simp [hc]
  obtain ⟨h, a, b, hd, n⟩ := drawCK_ok code
  have s := n.small
  simp only [hc, decide_false, cond_false, hd, Option.bind_some, specChg_ok s, implChg_ok s, equalInts_ok chgV_lt, decide_true, Bool.not_true]
  by_cases hz : (chgV h a b).length = 0
  · simp [hz]
  have hz' : (((chgV h a b).length : Int) == 0) = false := by simpa using hz
  obtain ⟨ok, ha, hb, ev⟩ := chgV_some hz
  have ox := storeAt_ok (h := h) (t := a)
  have oy := storeAt_ok (h := h) (t := b)
  have hL : logBV (storeAt h a) (storeAt h b) = logB (storeAt h a) (storeAt h b) := if_pos ⟨ox, oy⟩
  have hl32 := logB_len ox oy
  simp only [hz', cond_false, Option.bind_some, specAt_ok s, implAt_ok s, specLogB_ok storeAt_near storeAt_near, implLogB_ok storeAt_near storeAt_near, hL, isIn_ok chgV_lt, any_mem]
  rw [loop_all (xs := logB (storeAt h a) (storeAt h b)) (P := fun _ => true) (r := false)]
  · simp [selim, ev, logB_chgK ox oy]
  · intro i hi
    have d1 : decide ((i : Int) < ((logB (storeAt h a) (storeAt h b)).length : Int)) = true := decide_eq_true (by omega)
    have e2 : ((i + 1 : Nat) : Int) = (i : Int) + 1 := by omega
    have hin : (logB (storeAt h a) (storeAt h b))[i].2.1 ∈ chgV h a b := by
      rw [ev, mem_chgK ox oy, ← mem_logB ox oy]
      exact List.mem_map.2 ⟨_, List.getElem_mem hi, rfl⟩
    simp only [d1, cond_true, gidx_nat hi, Option.bind_some, w64_succ (i := i) (by omega), decide_eq_true hin, Bool.not_true, cond_false, e2, if_true]
  · simp
end Go.Vs
