/- Plain facts of what the functions compute. -/
import Derived.Test.YtfcemgcmpcmgcaaStoreAtLogPure1
set_option linter.unusedVariables false
set_option linter.unusedSimpArgs false
namespace Go.Vs

def vPar (v : Vr Item) : Po Item × Vr Item × Vr Item := match v with
  | .nil => (.nil, .nil, .nil)
  | .node x l r => (x, l, r)
theorem node_ok (v : Vr Item) : M.impl_version_node v = some (vPar v) := by
  unfold M.impl_version_node
  cases v <;> rfl
def flat : Vr Item → List Item
  | .nil => []
  | .node (.to x) _ _ => [x]
  | .node .nil l r => flat l ++ flat r
def Sh : Nat → Nat → Vr Item → Prop
  | _, _, .nil => True
  | 0, b, .node x l r => l = .nil ∧ r = .nil ∧ ∀ y, x = .to y → y.1 = (b : Int) ∧ y.2.1.length ≤ 1048576
  | n + 1, b, .node x l r => x = .nil ∧ Sh n (2 * b) l ∧ Sh n (2 * b + 1) r
theorem Sh.keys : ∀ {n b : Nat} {v : Vr Item}, Sh n b v → ∀ x ∈ flat v, (b * 2 ^ n : Nat) ≤ x.1 ∧ x.1 < ((b + 1) * 2 ^ n : Nat) ∧ x.2.1.length ≤ 1048576
  | n, _, .nil, _, x, hx => by cases hx
  | 0, b, .node (.to y) l r, h, x, hx => by
    obtain rfl := List.mem_singleton.1 hx
    obtain ⟨_, _, h⟩ := h
    obtain ⟨h1, h2⟩ := h x rfl
    simp; omega
  | 0, b, .node .nil l r, h, x, hx => by
    obtain ⟨rfl, rfl, _⟩ := h
    cases hx
  | n + 1, b, .node x l r, h, y, hy => by
    obtain ⟨rfl, h1, h2⟩ := h
    have e : 2 ^ (n + 1) = 2 * 2 ^ n := by rw [Nat.pow_succ, Nat.mul_comm]
    rcases List.mem_append.1 (show y ∈ flat l ++ flat r from hy) with hy | hy
    · obtain ⟨a1, a2, a3⟩ := h1.keys y hy
      refine ⟨?_, ?_, a3⟩
      · rw [e]; have : b * (2 * 2 ^ n) = 2 * b * 2 ^ n := by rw [← Nat.mul_assoc, Nat.mul_comm b 2]
        omega
      · rw [e]; have : (2 * b + 1) * 2 ^ n ≤ (b + 1) * (2 * 2 ^ n) := by
          rw [← Nat.mul_assoc]; exact Nat.mul_le_mul_right _ (by omega)
        omega
    · obtain ⟨a1, a2, a3⟩ := h2.keys y hy
      refine ⟨?_, ?_, a3⟩
      · rw [e]; have : b * (2 * 2 ^ n) ≤ (2 * b + 1) * 2 ^ n := by
          rw [← Nat.mul_assoc]; exact Nat.mul_le_mul_right _ (by omega)
        omega
      · rw [e]; have : (2 * b + 1 + 1) * 2 ^ n ≤ (b + 1) * (2 * 2 ^ n) := by
          rw [← Nat.mul_assoc]; exact Nat.mul_le_mul_right _ (by omega)
        omega
theorem Sh.order : ∀ {n b : Nat} {v : Vr Item}, Sh n b v → (flat v).Pairwise (fun x y => x.1 < y.1)
  | _, _, .nil, _ => List.Pairwise.nil
  | 0, b, .node (.to y) l r, h => List.pairwise_singleton _ _
  | 0, b, .node .nil l r, h => by
    obtain ⟨rfl, rfl, _⟩ := h
    exact List.Pairwise.nil
  | n + 1, b, .node x l r, h => by
    obtain ⟨rfl, h1, h2⟩ := h
    show (flat l ++ flat r).Pairwise _
    refine List.pairwise_append.2 ⟨h1.order, h2.order, fun x hx y hy => ?_⟩
    have a := h1.keys x hx
    have b := h2.keys y hy
    omega
theorem Sh.len : ∀ {n b : Nat} {v : Vr Item}, Sh n b v → (flat v).length ≤ 2 ^ n
  | _, _, .nil, _ => Nat.zero_le _
  | 0, b, .node (.to y) l r, h => Nat.le_refl _
  | 0, b, .node .nil l r, h => by
    obtain ⟨rfl, rfl, _⟩ := h
    exact Nat.zero_le _
  | n + 1, b, .node x l r, h => by
    obtain ⟨rfl, h1, h2⟩ := h
    show (flat l ++ flat r).length ≤ _
    have a := h1.len
    have b := h2.len
    rw [List.length_append, Nat.pow_succ]; omega
theorem atK_app (a b : List Item) (k : Int) : atK (a ++ b) k = (atK a k).or (atK b k) := by
  unfold atK; exact List.find?_append
theorem atK_none {l : List Item} {k : Int} (h : ∀ x ∈ l, x.1 ≠ k) : atK l k = none := by
  unfold atK
  rw [List.find?_eq_none]
  intro x hx; simpa using h x hx
theorem side_all : ∀ (k : Fin 128) (n : Fin 7), gand (gshr .i64 (k.1 : Int) (n.1 : Int)) 1 = (((k.1 / 2 ^ n.1) % 2 : Nat) : Int) := by decide +kernel
theorem side_ok {k n : Nat} (hk : k < 128) (hn : n < 7) : gand (gshr .i64 (k : Int) (n : Int)) 1 = (((k / 2 ^ n) % 2 : Nat) : Int) := side_all ⟨k, hk⟩ ⟨n, hn⟩
theorem side_lo {k n b : Nat} (h1 : 2 * b * 2 ^ n ≤ k) (h2 : k < (2 * b + 1) * 2 ^ n) : k / 2 ^ n % 2 = 0 := by
  have : k / 2 ^ n = 2 * b := Nat.div_eq_of_lt_le h1 h2
  omega
theorem side_hi {k n b : Nat} (h1 : (2 * b + 1) * 2 ^ n ≤ k) (h2 : k < (2 * b + 1 + 1) * 2 ^ n) : k / 2 ^ n % 2 = 1 := by
  have : k / 2 ^ n = 2 * b + 1 := Nat.div_eq_of_lt_le h1 h2
  omega
def poL (x : Po Item) : Option Item := match x with
  | .nil => none
  | .to y => some y
theorem Sh.par {n b : Nat} {v : Vr Item} (h : Sh (n + 1) b v) : vPar v = (.nil, (vPar v).2.1, (vPar v).2.2) ∧ Sh n (2 * b) (vPar v).2.1 ∧ Sh n (2 * b + 1) (vPar v).2.2 ∧ flat v = flat (vPar v).2.1 ++ flat (vPar v).2.2 := by
  cases v with
  | nil => exact ⟨rfl, by cases n <;> trivial, by cases n <;> trivial, rfl⟩
  | node x l r =>
    obtain ⟨rfl, h1, h2⟩ := h
    exact ⟨rfl, h1, h2, rfl⟩
theorem Sh.par0 {b : Nat} {v : Vr Item} (h : Sh 0 b v) : (vPar v).2.1 = .nil ∧ (vPar v).2.2 = .nil ∧ (∀ y, (vPar v).1 = .to y → y.1 = (b : Int) ∧ y.2.1.length ≤ 1048576) ∧ flat v = (poL (vPar v).1).toList := by
  cases v with
  | nil => exact ⟨rfl, rfl, (fun y hy => by cases hy), rfl⟩
  | node x l r =>
    obtain ⟨rfl, rfl, h⟩ := h
    refine ⟨rfl, rfl, h, ?_⟩
    cases x <;> rfl
theorem with_ok : ∀ (n : Nat), n ≤ 7 → ∀ {b key fuel : Nat} {v : Vr Item} {x : Po Item}, n < fuel → Sh n b v → b * 2 ^ n ≤ key → key < (b + 1) * 2 ^ n → key < 128 → (∀ y, x = .to y → y.1 = (key : Int) ∧ y.2.1.length ≤ 1048576) →
    ∃ v', M.impl_version_with fuel v (key : Int) (n : Int) x = some v' ∧ Sh n b v' ∧ ∀ k : Int, atK (flat v') k = if k = (key : Int) then poL x else atK (flat v) k := by
  intro n
  induction n with
  | zero =>
    intro _ b key fuel v x hf hs h1 h2 h3 hx
    obtain ⟨fuel, rfl⟩ : ∃ m, fuel = m + 1 := ⟨fuel - 1, by omega⟩
    have hb : key = b := by simp at h1 h2; omega
    subst hb
    obtain ⟨e1, e2, e3, e4⟩ := hs.par0
    refine ⟨.node x .nil .nil, ?_, ⟨rfl, rfl, hx⟩, fun k => ?_⟩
    · show M.impl_version_with_F _ _ _ _ _ = _
      unfold M.impl_version_with_F
      simp only [node_ok, Option.bind_some, e1, e2]
      rfl
    · by_cases hk : k = (key : Int)
      · rw [if_pos hk]
        cases x with
        | nil => rfl
        | to y => have := (hx y rfl).1; simp [flat, atK, poL, this, hk]
      · rw [if_neg hk, e4]
        have a1 : atK (flat (.node x .nil .nil)) k = none := by
          refine atK_none fun y hy => ?_
          cases x with
          | nil => cases hy
          | to z => obtain rfl := List.mem_singleton.1 hy; rw [(hx y rfl).1]; exact fun q => hk q.symm
        have a2 : atK ((poL (vPar v).1).toList) k = none := by
          refine atK_none fun y hy => ?_
          cases hv : (vPar v).1 with
          | nil => rw [hv] at hy; cases hy
          | to z => rw [hv] at hy; obtain rfl := List.mem_singleton.1 hy; rw [(e3 y hv).1]; exact fun q => hk q.symm
        rw [a1, a2]
  | succ n ih =>
    intro hn b key fuel v x hf hs h1 h2 h3 hx
    obtain ⟨fuel, rfl⟩ : ∃ m, fuel = m + 1 := ⟨fuel - 1, by omega⟩
    obtain ⟨e1, e2, e3, e4⟩ := hs.par
    have p2 : 2 ^ (n + 1) = 2 * 2 ^ n := by rw [Nat.pow_succ, Nat.mul_comm]
    have q1 : b * 2 ^ (n + 1) = 2 * b * 2 ^ n := by rw [p2, ← Nat.mul_assoc, Nat.mul_comm b 2]
    have q2 : (b + 1) * 2 ^ (n + 1) = (2 * b + 1 + 1) * 2 ^ n := by rw [p2, ← Nat.mul_assoc]; congr 1; omega
    rw [q1] at h1
    rw [q2] at h2
    have hb0 : (((n + 1 : Nat) : Int) == 0) = false := by simp; omega
    have hw : w64 (((n + 1 : Nat) : Int) - 1) = (n : Int) := by rw [w64_id (by omega) (by omega)]; omega
    have hg : ∀ z, gsh (n : Int) z = some z := fun z => by unfold gsh; rw [if_neg (by omega)]
    have kl : ∀ k : Int, (∀ y ∈ flat (vPar v).2.1, y.1 ≠ k) ∨ (k < ((2 * b + 1) * 2 ^ n : Nat)) := fun k => by
      by_cases q : k < ((2 * b + 1) * 2 ^ n : Nat)
      · exact .inr q
      · refine .inl fun y hy e => ?_
        have := (e2.keys y hy).2.1; omega
    by_cases hlo : key < (2 * b + 1) * 2 ^ n
    · have hs0 := side_lo h1 hlo
      obtain ⟨v', r1, r2, r3⟩ := ih (by omega) (fuel := fuel) (v := (vPar v).2.1) (x := x) (by omega) e2 h1 hlo h3 hx
      refine ⟨.node .nil v' (vPar v).2.2, ?_, ⟨rfl, r2, e3⟩, fun k => ?_⟩
      · show M.impl_version_with_F _ _ _ _ _ = _
        unfold M.impl_version_with_F
        simp only [node_ok, Option.bind_some, hb0, cond_false, hw, hg, side_ok h3 (show n < 7 by omega), hs0]
        simp only [gsel2, if_pos, r1, Option.bind_some, bsel, Vr.mk, show (vPar v).1 = Po.nil by rw [e1], Int.ofNat_zero, Int.cast_ofNat_Int, if_true]
      · show atK (flat v' ++ flat (vPar v).2.2) k = _
        rw [e4, atK_app, atK_app, r3 k]
        by_cases hk : k = (key : Int)
        · rw [if_pos hk, if_pos hk]
          have : atK (flat (vPar v).2.2) k = none := atK_none fun y hy q => by have := (e3.keys y hy).1; omega
          rw [this, Option.or_none]
        · rw [if_neg hk, if_neg hk]
    · have hs1 := side_hi (by omega) h2
      obtain ⟨v', r1, r2, r3⟩ := ih (by omega) (fuel := fuel) (v := (vPar v).2.2) (x := x) (by omega) e3 (by omega) h2 h3 hx
      refine ⟨.node .nil (vPar v).2.1 v', ?_, ⟨rfl, e2, r2⟩, fun k => ?_⟩
      · show M.impl_version_with_F _ _ _ _ _ = _
        unfold M.impl_version_with_F
        simp only [node_ok, Option.bind_some, hb0, cond_false, hw, hg, side_ok h3 (show n < 7 by omega), hs1]
        simp only [gsel2, show ((1 : Nat) : Int) = 1 from rfl, show ¬ ((1 : Int) = 0) by decide, if_false, if_true, r1, Option.bind_some, bsel, Vr.mk, show (vPar v).1 = Po.nil by rw [e1]]
      · show atK (flat (vPar v).2.1 ++ flat v') k = _
        rw [e4, atK_app, atK_app, r3 k]
        by_cases hk : k = (key : Int)
        · rw [if_pos hk, if_pos hk]
          have : atK (flat (vPar v).2.1) k = none := atK_none fun y hy q => by have := (e2.keys y hy).2.1; omega
          rw [this, Option.none_or]
        · rw [if_neg hk, if_neg hk]
theorem okEn_iff {e : Ent} (h : okEn e = true) : (e.1 = 1 ∧ isItem e.2 = true) ∨ (e.1 = 2 ∧ (1 ≤ e.2.1 ∧ e.2.1 ≤ 99)) := by
  unfold okEn at h
  split at h
  · next q => exact .inl ⟨q, h⟩
  · simp only [Bool.and_eq_true, decide_eq_true_eq] at h
    exact .inr ⟨h.1, h.2.1⟩
theorem after_ok {v : Vr Item} {e : Ent} (he : okEn e = true) (hs : Sh 7 0 v) : ∃ v', M.impl_version_after v e = some v' ∧ Sh 7 0 v' ∧ ∀ k, atK (flat v') k = stepK k (atK (flat v) k) e := by
  unfold M.impl_version_after
  rcases okEn_iff he with ⟨h1, h2⟩ | ⟨h1, h2, h3⟩
  · have hk := (isItem_iff.1 h2).1
    have hl := isItem_len h2
    obtain ⟨key, hkey⟩ := Int.eq_ofNat_of_zero_le (show 0 ≤ e.2.1 by omega)
    obtain ⟨v', r1, r2, r3⟩ := with_ok 7 (Nat.le_refl _) (b := 0) (key := key) (fuel := 100) (v := v) (x := .to e.2) (by omega) hs (by omega) (by omega) (by omega) (fun y hy => by cases hy; exact ⟨hkey, by omega⟩)
    refine ⟨v', ?_, r2, fun k => ?_⟩
    · have : (e.1 == 2) = false := by rw [h1]; rfl
      simp only [this, cond_false, hkey]
      rw [← hkey]
      rw [← hkey] at r1
      show (M.impl_version_with 100 v e.2.1 7 (Po.to e.2)).bind _ = _
      rw [show (7 : Int) = ((7 : Nat) : Int) from rfl, r1]; rfl
    · rw [r3 k, ← hkey]
      unfold stepK
      by_cases q : k = e.2.1
      · rw [if_pos q, if_pos q.symm, if_pos h1]; rfl
      · rw [if_neg q, if_neg (fun w => q w.symm)]
  · obtain ⟨key, hkey⟩ := Int.eq_ofNat_of_zero_le (show 0 ≤ e.2.1 by omega)
    obtain ⟨v', r1, r2, r3⟩ := with_ok 7 (Nat.le_refl _) (b := 0) (key := key) (fuel := 100) (v := v) (x := .nil) (by omega) hs (by omega) (by omega) (by omega) (fun y hy => by cases hy)
    refine ⟨v', ?_, r2, fun k => ?_⟩
    · have : (e.1 == 2) = true := by rw [h1]; rfl
      simp only [this, cond_true, hkey]
      rw [show (7 : Int) = ((7 : Nat) : Int) from rfl, r1]; rfl
    · rw [r3 k, ← hkey]
      unfold stepK
      by_cases q : k = e.2.1
      · rw [if_pos q, if_pos q.symm, if_neg (by omega)]; rfl
      · rw [if_neg q, if_neg (fun w => q w.symm)]
noncomputable def vA (v : Vr Item) (e : Ent) : Vr Item := (M.impl_version_after v e).getD .nil
noncomputable def vW (log : List Ent) (i : Nat) : Vr Item := (log.take i).foldl vA .nil
theorem vW_succ {log : List Ent} {i : Nat} (h : i < log.length) : vW log (i + 1) = vA (vW log i) log[i] := by
  unfold vW
  rw [List.take_succ_eq_append_getElem h, List.foldl_append]; rfl
theorem vW_ok {log : List Ent} (ok : okLg log = true) : ∀ i, i ≤ log.length → Sh 7 0 (vW log i) ∧ ∀ k, atK (flat (vW log i)) k = finK k none (log.take i)
  | 0, _ => ⟨trivial, fun k => rfl⟩
  | i + 1, h => by
    obtain ⟨h1, h2⟩ := vW_ok ok i (by omega)
    have he := (okLg_iff.1 ok).1 _ (List.getElem_mem (show i < log.length by omega))
    obtain ⟨v', r1, r2, r3⟩ := after_ok he h1
    have e : vW log (i + 1) = v' := by rw [vW_succ (by omega)]; unfold vA; rw [r1]; rfl
    rw [e]
    refine ⟨r2, fun k => ?_⟩
    rw [r3 k, h2 k, List.take_succ_eq_append_getElem (by omega), finK_append]; rfl
theorem vW_step {log : List Ent} (ok : okLg log = true) {i : Nat} (h : i < log.length) : M.impl_version_after (vW log i) log[i] = some (vW log (i + 1)) := by
  have he := (okLg_iff.1 ok).1 _ (List.getElem_mem h)
  obtain ⟨v', r1, r2, r3⟩ := after_ok he (vW_ok ok i (by omega)).1
  rw [vW_succ h]; unfold vA; rw [r1]; rfl
theorem versions_ok {log : List Ent} {ts : List Int} (ok : okLg log = true) : M.impl_History_versions (log, ts) = some ((List.range (log.length + 1)).map (vW log)) := by
  unfold M.impl_History_versions
  have hl := (okLg_iff.1 ok).2
  have := loop_run (f := fun (s7 : (List (Vr Item)) × (Int)) => (bif decide (s7.2 < (log.length : Int)) then
      (gidx log s7.2).bind fun x12 =>
      (gidx s7.1 s7.2).bind fun x25 =>
      (M.impl_version_after x25 (x12.1, (x12.2.1, x12.2.2.1, x12.2.2.2))).bind fun r35 =>
      (gapp s7.1 ([r35] : List (Vr Item))).bind fun xs41 =>
      some (.inl (xs41, w64 (s7.2 + 1)))
     else
      some (.inr s7.1))) (r := (List.range (log.length + 1)).map (vW log)) log.length (fun i => ((List.range (i + 1)).map (vW log), (i : Int))) (fun i hi => by
    have hd : decide ((i : Int) < (log.length : Int)) = true := by simp; omega
    have hl2 : i < ((List.range (i + 1)).map (vW log)).length := by simp
    have hs := vW_step ok hi
    simp only [hd, cond_true, gidx_nat hi, gidx_nat hl2, Option.bind_some, List.getElem_map, List.getElem_range]
    rw [show M.impl_version_after (vW log i) (log[i].1, (log[i].2.1, log[i].2.2.1, log[i].2.2.2)) = some (vW log (i + 1)) from hs, Option.bind_some, gapp_ok (by simp; omega), Option.bind_some, w64_succ (by omega)]
    rw [List.range_succ (n := i + 1), List.map_append]; rfl) (by simp)
  simp only at this ⊢
  rw [show (([Vr.nil] : List (Vr Item)), (0 : Int)) = ((List.range (0 + 1)).map (vW log), ((0 : Nat) : Int)) from rfl, this]
  rfl
theorem appendTo_nil {fuel : Nat} (l : List Item) : M.impl_version_appendTo (fuel + 1) .nil l = some l := rfl
theorem appendTo_ok : ∀ (n : Nat) {b fuel : Nat} {v : Vr Item} {l : List Item}, n + 1 < fuel → Sh n b v → l.length + 2 ^ n ≤ 1048576 → M.impl_version_appendTo fuel v l = some (l ++ flat v) := by
  intro n
  induction n with
  | zero =>
    intro b fuel v l hf hs hl
    obtain ⟨fuel, rfl⟩ : ∃ m, fuel = m + 2 := ⟨fuel - 2, by omega⟩
    cases v with
    | nil => rw [appendTo_nil]; simp [flat]
    | node x lf rt =>
      obtain ⟨rfl, rfl, h⟩ := hs
      show M.impl_version_appendTo_F _ _ _ = _
      unfold M.impl_version_appendTo_F
      cases x with
      | nil => simp [Vr.isNil, Vr.get, Po.isNil, appendTo_nil, flat]
      | to y =>
        have hy := (h y rfl).2
        have hc := implCopy_ok hy
        simp only [Vr.isNil, Vr.get, Po.isNil, Po.get, cond_false, cond_true, Bool.not_false, Option.bind_some, hc]
        rw [gapp_ok (by simp; omega)]; rfl
  | succ n ih =>
    intro b fuel v l hf hs hl
    obtain ⟨fuel, rfl⟩ : ∃ m, fuel = m + 1 := ⟨fuel - 1, by omega⟩
    cases v with
    | nil => rw [appendTo_nil]; simp [flat]
    | node x lf rt =>
      obtain ⟨rfl, h1, h2⟩ := hs
      have hp : 2 ^ (n + 1) = 2 ^ n + 2 ^ n := by rw [Nat.pow_succ]; omega
      have hlen := h1.len
      show M.impl_version_appendTo_F _ _ _ = _
      unfold M.impl_version_appendTo_F
      simp only [Vr.isNil, Vr.get, Po.isNil, cond_false, Bool.not_true, Option.bind_some]
      rw [ih (by omega) h1 (by omega), Option.bind_some, ih (by omega) h2 (by simp; omega), Option.bind_some, List.append_assoc]
      rfl
theorem sorted_at {a b : List Item} (pa : a.Pairwise (fun x y => x.1 < y.1)) (pb : b.Pairwise (fun x y => x.1 < y.1)) (h : ∀ k, atK a k = atK b k) : a = b := by
  refine sorted_uniq pa pb fun x => ?_
  have h1 := atK_iff pa (k := x.1) (y := x)
  have h2 := atK_iff pb (k := x.1) (y := x)
  rw [h x.1] at h1
  exact ⟨fun hx => (h2.1 (h1.2 ⟨hx, rfl⟩)).1, fun hx => (h1.1 (h2.2 ⟨hx, rfl⟩)).1⟩
theorem flat_ok {h : Hist} (ok : okHi h = true) {n : Nat} (hn : n ≤ h.1.length) : flat (vW h.1 n) = (repL [] (h.1.take n)).1 := by
  obtain ⟨h1, h2, h3, h4⟩ := okHi_iff.1 ok
  obtain ⟨s1, s2⟩ := vW_ok h1 n hn
  have hd : (repL [] (h.1.take n)).2 = (h.1.take n).length := by rw [repL_take _ _ _ (by omega)]; simp; omega
  refine sorted_at s1.order (okStore_iff.1 (repL_ok (h.1.take n) okStore_nil)).2.2 fun k => ?_
  rw [s2 k, repL_at _ _ hd k]; rfl
theorem verAt_ok {h : Hist} (ok : okHi h = true) {n : Nat} (hn : n ≤ h.1.length) : gidx ((List.range (h.1.length + 1)).map (vW h.1)) (n : Int) = some (vW h.1 n) := by
  have hl2 : n < ((List.range (h.1.length + 1)).map (vW h.1)).length := by simp; omega
  rw [gidx_nat hl2]; simp
theorem implAt_ok {h : Hist} {t : Int} (s : SmallH h) : M.impl_StoreAt (h.1, h.2) t = some (storeAt h t) := by
  unfold M.impl_StoreAt storeAt
  have s2 := s.2
  simp only [implVHi_ok s.1 (by omega), implMom_ok, Option.bind_some]
  by_cases ok : okHi h = true
  · have hl := (okHi_iff.1 ok).2.1
    by_cases ht : 0 ≤ t ∧ t ≤ 1000
    · have hu := upT_le (ts := h.2) (t := t)
      have hn : upT h.2 t ≤ h.1.length := by omega
      rw [if_pos ⟨ok, ht⟩]
      simp only [ok, Bool.not_true, cond_false, ht, and_self, decide_true, Option.bind_some, versions_ok (okHi_iff.1 ok).1, implUntil_ok s.2 (okHi_sorted ok) ht.1 ht.2, verAt_ok ok hn]
      rw [appendTo_ok 7 (by omega) (vW_ok (okHi_iff.1 ok).1 _ hn).1 (by simp), Option.bind_some, flat_ok ok hn]; rfl
    · have : decide (0 ≤ t ∧ t ≤ 1000) = false := decide_eq_false ht
      rw [if_neg (fun q => ht q.2)]
      simp only [ok, Bool.not_true, cond_false, this, Option.bind_some, Bool.not_false, cond_true]
  · rw [if_neg (fun q => ok q.1)]
    simp only [Bool.not_eq_true] at ok
    simp [ok]
/-! ## Changed keys -/
def dif : Nat → Vr Item → Vr Item → List Int
  | 0, v, w => match (vPar v).1, (vPar w).1 with
    | .to x, .to y => if x = y then [] else [x.1]
    | .to x, .nil => [x.1]
    | .nil, .to y => [y.1]
    | .nil, .nil => []
  | n + 1, v, w => dif n (vPar v).2.1 (vPar w).2.1 ++ dif n (vPar v).2.2 (vPar w).2.2
theorem dif_self : ∀ (n : Nat) (v : Vr Item), dif n v v = []
  | 0, v => by unfold dif; cases (vPar v).1 <;> simp
  | n + 1, v => by unfold dif; rw [dif_self n, dif_self n]; rfl
theorem dif_len : ∀ (n : Nat) (v w : Vr Item), (dif n v w).length ≤ 2 ^ n
  | 0, v, w => by
    unfold dif
    cases (vPar v).1 <;> cases (vPar w).1 <;> simp
    split <;> simp
  | n + 1, v, w => by
    unfold dif
    have a := dif_len n (vPar v).2.1 (vPar w).2.1
    have b := dif_len n (vPar v).2.2 (vPar w).2.2
    rw [List.length_append, Nat.pow_succ]; omega
theorem atK_flat0 {b : Nat} {v : Vr Item} (h : Sh 0 b v) (k : Int) : atK (flat v) k = if k = (b : Int) then poL (vPar v).1 else none := by
  obtain ⟨_, _, e3, e4⟩ := h.par0
  rw [e4]
  cases hv : (vPar v).1 with
  | nil => simp [poL, atK]
  | to y =>
    have := (e3 y hv).1
    by_cases hk : k = (b : Int)
    · simp [poL, atK, this, hk]
    · have hn : ¬ (b : Int) = k := fun q => hk q.symm
      simp [poL, atK, this, hk, hn]
theorem mem_dif : ∀ {n b : Nat} {v w : Vr Item}, Sh n b v → Sh n b w → ∀ k : Int, k ∈ dif n v w ↔ atK (flat v) k ≠ atK (flat w) k
  | 0, b, v, w, hv, hw, k => by
    rw [atK_flat0 hv, atK_flat0 hw]
    obtain ⟨_, _, e3, _⟩ := hv.par0
    obtain ⟨_, _, g3, _⟩ := hw.par0
    unfold dif
    cases h1 : (vPar v).1 with
    | nil =>
      cases h2 : (vPar w).1 with
      | nil => simp
      | to y => have := (g3 y h2).1; simp [poL, this]
    | to x =>
      have hx := (e3 x h1).1
      cases h2 : (vPar w).1 with
      | nil => simp [poL, hx]
      | to y =>
        have := (g3 y h2).1
        by_cases hk : k = (b : Int)
        · by_cases q : x = y
          · simp [poL, q]
          · simp [poL, hk, q, hx]
        · by_cases q : x = y
          · simp [poL, q]
          · simp [poL, hk, q, hx]
  | n + 1, b, v, w, hv, hw, k => by
    obtain ⟨_, a2, a3, a4⟩ := hv.par
    obtain ⟨_, b2, b3, b4⟩ := hw.par
    show k ∈ dif n _ _ ++ dif n _ _ ↔ _
    rw [List.mem_append, mem_dif a2 b2, mem_dif a3 b3, a4, b4, atK_app, atK_app]
    have r1 : ∀ {u : Vr Item}, Sh n (2 * b) u → (((2 * b + 1) * 2 ^ n : Nat) : Int) ≤ k → atK (flat u) k = none := fun hu hk => atK_none fun y hy q => by have := (hu.keys y hy).2.1; omega
    have r2 : ∀ {u : Vr Item}, Sh n (2 * b + 1) u → k < (((2 * b + 1) * 2 ^ n : Nat) : Int) → atK (flat u) k = none := fun hu hk => atK_none fun y hy q => by have := (hu.keys y hy).1; omega
    by_cases hk : k < (((2 * b + 1) * 2 ^ n : Nat) : Int)
    · rw [r2 a3 hk, r2 b3 hk]; simp
    · rw [r1 a2 (by omega), r1 b2 (by omega)]; simp
theorem dif_range : ∀ {n b : Nat} {v w : Vr Item}, Sh n b v → Sh n b w → ∀ k ∈ dif n v w, ((b * 2 ^ n : Nat) : Int) ≤ k ∧ k < (((b + 1) * 2 ^ n : Nat) : Int) := by
  intro n b v w hv hw k hk
  have hne := (mem_dif hv hw k).1 hk
  have : (∃ x, atK (flat v) k = some x) ∨ ∃ x, atK (flat w) k = some x := by
    cases h1 : atK (flat v) k with
    | some x => exact .inl ⟨x, rfl⟩
    | none =>
      cases h2 : atK (flat w) k with
      | some x => exact .inr ⟨x, rfl⟩
      | none => rw [h1, h2] at hne; exact absurd rfl hne
  rcases this with ⟨x, hx⟩ | ⟨x, hx⟩
  · obtain ⟨m, rfl⟩ := (atK_iff hv.order).1 hx
    have := hv.keys x m; exact ⟨this.1, this.2.1⟩
  · obtain ⟨m, rfl⟩ := (atK_iff hw.order).1 hx
    have := hw.keys x m; exact ⟨this.1, this.2.1⟩
theorem dif_asc : ∀ {n b : Nat} {v w : Vr Item}, Sh n b v → Sh n b w → (dif n v w).Pairwise (· < ·)
  | 0, b, v, w, hv, hw => by
    unfold dif
    cases (vPar v).1 <;> cases (vPar w).1 <;> simp
    split <;> simp
  | n + 1, b, v, w, hv, hw => by
    obtain ⟨_, a2, a3, a4⟩ := hv.par
    obtain ⟨_, b2, b3, b4⟩ := hw.par
    show (dif n _ _ ++ dif n _ _).Pairwise _
    refine List.pairwise_append.2 ⟨dif_asc a2 b2, dif_asc a3 b3, fun x hx y hy => ?_⟩
    have p := dif_range a2 b2 x hx
    have q := dif_range a3 b3 y hy
    omega
theorem two_rounds {g : List Int → Vr Item → Vr Item → Option (List Int)} {a1 a2 b1 b2 : Vr Item} {k0 k1 k2 : List Int} (h1 : g k0 a1 b1 = some k1) (h2 : g k1 a2 b2 = some k2) :
    loopM (fun (s23 : (List Int) × (Int)) => (bif decide (s23.2 < 2) then
      (gsel2 s23.2 a1 a2).bind fun x28 =>
      (gsel2 s23.2 b1 b2).bind fun x33 =>
      (g s23.1 x28 x33).bind fun r40 =>
      some (.inl (r40, w64 (s23.2 + 1)))
     else
      some (.inr s23.1))) (k0, 0) = some k2 := by
  rw [loopM_eq]
  have d0 : decide ((0 : Int) < 2) = true := by decide
  have d1 : decide ((1 : Int) < 2) = true := by decide
  have d2 : decide ((2 : Int) < 2) = false := by decide
  simp only [d0, cond_true, gsel2, if_true, Option.bind_some, h1, selim, show w64 (0 + 1) = 1 from rfl]
  rw [loopM_eq]
  simp only [d1, cond_true, gsel2, if_true, show ¬ ((1 : Int) = 0) by decide, if_false, Option.bind_some, h2, selim, show w64 (1 + 1) = 2 from rfl]
  rw [loopM_eq]
  simp only [d2, cond_false, Option.bind_some, selim]
theorem chg_nil {fuel : Nat} {keys : List Int} : M.impl_appendChanged (fuel + 1) keys .nil .nil = some keys := by
  show M.impl_appendChanged_F _ _ _ _ = _
  unfold M.impl_appendChanged_F gboth
  rw [if_pos rfl]; rfl
theorem gboth_of {nl : Bool} {v w : Vr Item} {a b : Option (List Int)} {r : List Int} (hb : nl = false ∨ v ≠ w → b = some r) (ha : v = w → a = some r) : gboth nl v w a b = some r := by
  unfold gboth
  split
  · next e =>
    cases nl with
    | true => exact ha e
    | false => rw [cond_false, ha e, hb (.inl rfl), if_pos rfl]
  · next e => exact hb (.inr e)
theorem chg_ok : ∀ (n : Nat) {b fuel : Nat} {v w : Vr Item} {keys : List Int}, n + 1 < fuel → Sh n b v → Sh n b w → keys.length + 2 ^ n ≤ 1048576 → M.impl_appendChanged fuel keys v w = some (keys ++ dif n v w) := by
  intro n
  induction n with
  | zero =>
    intro b fuel v w keys hf hv hw hl
    obtain ⟨fuel, rfl⟩ : ∃ m, fuel = m + 2 := ⟨fuel - 2, by omega⟩
    obtain ⟨e1, e2, e3, _⟩ := hv.par0
    obtain ⟨g1, g2, g3, _⟩ := hw.par0
    show M.impl_appendChanged_F _ _ _ _ = _
    unfold M.impl_appendChanged_F
    refine gboth_of (fun _ => ?_) (fun e => by rw [e, dif_self, List.append_nil])
    simp only [node_ok, Option.bind_some, e1, e2, g1, g2]
    rw [two_rounds (k1 := keys) (k2 := keys) chg_nil chg_nil, Option.bind_some]
    unfold dif
    cases h1 : (vPar v).1 with
    | nil =>
      cases h2 : (vPar w).1 with
      | nil => simp [Po.isNil]
      | to y => simp [Po.isNil, Po.get, gapp_ok (xs := keys) (ys := [y.1]) (by simp; simp at hl; omega)]
    | to x =>
      have hx := (e3 x h1).2
      cases h2 : (vPar w).1 with
      | nil => simp [Po.isNil, Po.get, gapp_ok (xs := keys) (ys := [x.1]) (by simp; simp at hl; omega)]
      | to y =>
        have he := equalIt_ok (x := x) (y := y) (by omega)
        simp only [Po.isNil, Po.get, Option.bind_some, Bool.not_false, cond_true, cond_false, he]
        by_cases q : x = y
        · simp [q]
        · simp [q, gapp_ok (xs := keys) (ys := [x.1]) (by simp; simp at hl; omega)]
  | succ n ih =>
    intro b fuel v w keys hf hv hw hl
    obtain ⟨fuel, rfl⟩ : ∃ m, fuel = m + 1 := ⟨fuel - 1, by omega⟩
    obtain ⟨a1, a2, a3, a4⟩ := hv.par
    obtain ⟨b1, b2, b3, b4⟩ := hw.par
    have hp : 2 ^ (n + 1) = 2 ^ n + 2 ^ n := by rw [Nat.pow_succ]; omega
    have hlen := dif_len n (vPar v).2.1 (vPar w).2.1
    show M.impl_appendChanged_F _ _ _ _ = _
    unfold M.impl_appendChanged_F
    refine gboth_of (fun _ => ?_) (fun e => by rw [e, dif_self, List.append_nil])
    simp only [node_ok, Option.bind_some]
    rw [two_rounds (k1 := keys ++ dif n (vPar v).2.1 (vPar w).2.1) (k2 := (keys ++ dif n (vPar v).2.1 (vPar w).2.1) ++ dif n (vPar v).2.2 (vPar w).2.2) (ih (by omega) a2 b2 (by omega)) (ih (by omega) a3 b3 (by simp; omega)), Option.bind_some]
    rw [show (vPar v).1 = Po.nil by rw [a1], show (vPar w).1 = Po.nil by rw [b1]]
    simp [Po.isNil, dif]
theorem incr_uniq : ∀ {a b : List Int}, a.Pairwise (· < ·) → b.Pairwise (· < ·) → (∀ k, k ∈ a ↔ k ∈ b) → a = b
  | [], [], _, _, _ => rfl
  | [], y :: b, _, _, h => by have := (h y).2 (by simp); cases this
  | x :: a, [], _, _, h => by have := (h x).1 (by simp); cases this
  | x :: a, y :: b, ha, hb, h => by
    obtain ⟨a1, a2⟩ := List.pairwise_cons.1 ha
    obtain ⟨b1, b2⟩ := List.pairwise_cons.1 hb
    have e : x = y := by
      rcases List.mem_cons.1 ((h x).1 (by simp)) with q | q
      · exact q
      · rcases List.mem_cons.1 ((h y).2 (by simp)) with w | w
        · exact w.symm
        · have := b1 x q; have := a1 y w; omega
    subst e
    rw [incr_uniq a2 b2 fun k => ?_]
    constructor
    · intro hk
      rcases List.mem_cons.1 ((h k).1 (List.mem_cons_of_mem _ hk)) with q | q
      · have := a1 k hk; omega
      · exact q
    · intro hk
      rcases List.mem_cons.1 ((h k).2 (List.mem_cons_of_mem _ hk)) with q | q
      · have := b1 k hk; omega
      · exact q
theorem chgK_mem {x y : List Item} (hx : okStore x = true) (hy : okStore y = true) (k : Int) : k ∈ chgK x y ↔ atK x k ≠ atK y k := by
  unfold chgK
  simp only [List.mem_map, List.mem_filter, List.mem_range, decide_eq_true_eq]
  constructor
  · rintro ⟨i, ⟨_, h⟩, rfl⟩; exact h
  · intro h
    have hr : 1 ≤ k ∧ k ≤ 99 := by
      have : (∃ z, atK x k = some z) ∨ ∃ z, atK y k = some z := by
        cases h1 : atK x k with
        | some z => exact .inl ⟨z, rfl⟩
        | none =>
          cases h2 : atK y k with
          | some z => exact .inr ⟨z, rfl⟩
          | none => rw [h1, h2] at h; exact absurd rfl h
      rcases this with ⟨z, hz⟩ | ⟨z, hz⟩
      · obtain ⟨m, rfl⟩ := (atK_iff (okStore_iff.1 hx).2.2).1 hz
        exact (isItem_iff.1 ((okStore_iff.1 hx).2.1 z m)).1
      · obtain ⟨m, rfl⟩ := (atK_iff (okStore_iff.1 hy).2.2).1 hz
        exact (isItem_iff.1 ((okStore_iff.1 hy).2.1 z m)).1
    refine ⟨(k - 1).toNat, ⟨by omega, ?_⟩, by omega⟩
    have e : (((k - 1).toNat : Nat) : Int) + 1 = k := by omega
    rw [e]; exact h
theorem chgK_asc {x y : List Item} : (chgK x y).Pairwise (· < ·) := by
  unfold chgK
  rw [List.pairwise_map]
  refine (List.Pairwise.filter _ (List.pairwise_lt_range (n := 99))).imp fun h => ?_
  omega
theorem implChg_ok {h : Hist} {a b : Int} (s : SmallH h) : M.impl_ChangedKeys (h.1, h.2) a b = some (chgV h a b) := by
  unfold M.impl_ChangedKeys chgV
  have s2 := s.2
  simp only [implVHi_ok s.1 (by omega), implMom_ok, Option.bind_some]
  by_cases ok : okHi h = true
  · have hl := (okHi_iff.1 ok).2.1
    by_cases ha : 0 ≤ a ∧ a ≤ 1000
    · by_cases hb : 0 ≤ b ∧ b ≤ 1000
      · have hu := upT_le (ts := h.2) (t := a)
        have hu2 := upT_le (ts := h.2) (t := b)
        have hn : upT h.2 a ≤ h.1.length := by omega
        have hn2 : upT h.2 b ≤ h.1.length := by omega
        have w1 := (vW_ok (okHi_iff.1 ok).1 _ hn).1
        have w2 := (vW_ok (okHi_iff.1 ok).1 _ hn2).1
        rw [if_pos ⟨ok, ha, hb⟩]
        simp only [ok, Bool.not_true, cond_false, ha, hb, and_self, decide_true, Option.bind_some, versions_ok (okHi_iff.1 ok).1, implUntil_ok s.2 (okHi_sorted ok) ha.1 ha.2, implUntil_ok s.2 (okHi_sorted ok) hb.1 hb.2, verAt_ok ok hn, verAt_ok ok hn2]
        rw [chg_ok 7 (by omega) w1 w2 (by simp), Option.bind_some, List.nil_append]
        congr 1
        have o1 : okStore (storeAt h a) = true := storeAt_ok
        have o2 : okStore (storeAt h b) = true := storeAt_ok
        have f1 : flat (vW h.1 (upT h.2 a)) = storeAt h a := by unfold storeAt; rw [if_pos ⟨ok, ha⟩, flat_ok ok hn]
        have f2 : flat (vW h.1 (upT h.2 b)) = storeAt h b := by unfold storeAt; rw [if_pos ⟨ok, hb⟩, flat_ok ok hn2]
        refine incr_uniq (dif_asc w1 w2) chgK_asc fun k => ?_
        rw [mem_dif w1 w2, chgK_mem o1 o2, f1, f2]
      · have : decide (0 ≤ b ∧ b ≤ 1000) = false := decide_eq_false hb
        rw [if_neg (fun q => hb q.2.2)]
        simp only [ok, ha, and_self, decide_true, Bool.not_true, cond_false, this, Option.bind_some, Bool.not_false, cond_true]
    · have : decide (0 ≤ a ∧ a ≤ 1000) = false := decide_eq_false ha
      rw [if_neg (fun q => ha q.2.1)]
      simp only [ok, Bool.not_true, cond_false, this, Option.bind_some, Bool.not_false, cond_true]
  · rw [if_neg (fun q => ok q.1)]
    simp only [Bool.not_eq_true] at ok
    simp [ok]
end Go.Vs

namespace Go.Vs

theorem implVHi2_ok {h : Hist} (s : SmallH h) : M.impl_ValidHistory (h.1, h.2) = some (okHi h) := implVHi_ok s.1 (by have := s.2; omega)

theorem storeAt_near {h : Hist} {t : Int} : SmallS (storeAt h t) := okStore_small storeAt_ok
end Go.Vs

namespace Go.Vs

/- Changed keys -/
theorem atK_range {x : List Item} (ho : okStore x = true) {k : Int} (h : atK x k ≠ none) : 1 ≤ k ∧ k ≤ 99 := by
  obtain ⟨_, _, hp⟩ := okStore_iff.1 ho
  cases ha : atK x k with
  | none => exact absurd ha h
  | some u =>
    obtain ⟨hu, rfl⟩ := (atK_iff hp).1 ha
    have := key_range ho hu
    omega
theorem mem_chgK {x y : List Item} (ox : okStore x = true) (oy : okStore y = true) {k : Int} : k ∈ chgK x y ↔ atK x k ≠ atK y k := by
  unfold chgK
  rw [List.mem_map]
  constructor
  · rintro ⟨i, hi, rfl⟩
    have := (List.mem_filter.1 hi).2
    simpa using this
  · intro hne
    have hr : 1 ≤ k ∧ k ≤ 99 := by
      by_cases hx : atK x k = none
      · by_cases hy : atK y k = none
        · rw [hx, hy] at hne; exact absurd rfl hne
        · exact atK_range oy hy
      · exact atK_range ox hx
    refine ⟨(k - 1).toNat, List.mem_filter.2 ⟨List.mem_range.2 (by omega), ?_⟩, by omega⟩
    have : (((k - 1).toNat : Nat) : Int) + 1 = k := by omega
    rw [this]
    simpa using hne
theorem chgK_nodup {x y : List Item} : (chgK x y).Nodup := by
  unfold chgK List.Nodup
  rw [List.pairwise_map]
  refine (List.Pairwise.filter _ List.nodup_range).imp fun h => ?_
  intro e; apply h; omega
theorem chgK_len {x y : List Item} : (chgK x y).length ≤ 99 := by
  unfold chgK
  rw [List.length_map]
  refine Nat.le_trans (List.length_filter_le _ _) (by simp)
theorem chgV_len {h : Hist} {a b : Int} : (chgV h a b).length ≤ 99 := by
  unfold chgV
  split
  · exact chgK_len
  · simp
theorem chgV_of {h : Hist} {a b : Int} (ok : okHi h = true) (ha : 0 ≤ a ∧ a ≤ 1000) (hb : 0 ≤ b ∧ b ≤ 1000) : chgV h a b = chgK (storeAt h a) (storeAt h b) := if_pos ⟨ok, ha, hb⟩
theorem mem_logB {x y : List Item} (ox : okStore x = true) (oy : okStore y = true) {k : Int} : k ∈ (logB x y).map (·.2.1) ↔ atK x k ≠ atK y k := by
  obtain ⟨_, _, px⟩ := okStore_iff.1 ox
  obtain ⟨_, _, py⟩ := okStore_iff.1 oy
  unfold logB
  rw [List.map_append, List.mem_append, List.map_map, List.map_map, List.mem_map, List.mem_map]
  constructor
  · rintro (⟨u, hu, rfl⟩ | ⟨v, hv, rfl⟩)
    · obtain ⟨h1, h2⟩ := List.mem_filter.1 hu
      show atK x u.1 ≠ atK y u.1
      rw [hasK_at] at h2
      rw [(atK_iff px).2 ⟨h1, rfl⟩]
      cases hy : atK y u.1 with
      | none => simp
      | some w => simp [hy] at h2
    · obtain ⟨h1, h2⟩ := List.mem_filter.1 hv
      show atK x v.1 ≠ atK y v.1
      rw [(atK_iff py).2 ⟨h1, rfl⟩]
      simpa using h2
  · intro hne
    cases hy : atK y k with
    | some v =>
      obtain ⟨hv, rfl⟩ := (atK_iff py).1 hy
      refine .inr ⟨v, List.mem_filter.2 ⟨hv, ?_⟩, rfl⟩
      rw [hy] at hne
      simpa using hne
    | none =>
      cases hx : atK x k with
      | none => rw [hx, hy] at hne; exact absurd rfl hne
      | some u =>
        obtain ⟨hu, rfl⟩ := (atK_iff px).1 hx
        refine .inl ⟨u, List.mem_filter.2 ⟨hu, ?_⟩, rfl⟩
        rw [hasK_at, hy]; rfl
theorem same_len {a b : List Int} (ha : a.Nodup) (hb : b.Nodup) (h : ∀ k, k ∈ a ↔ k ∈ b) : a.length = b.length :=
  ((List.perm_ext_iff_of_nodup ha hb).2 h).length_eq
theorem logB_chgK {x y : List Item} (ox : okStore x = true) (oy : okStore y = true) : (logB x y).length = (chgK x y).length := by
  have := same_len (logB_nodup ox oy) (chgK_nodup (x := x) (y := y)) fun k => by rw [mem_logB ox oy, mem_chgK ox oy]
  rwa [List.length_map] at this
end Go.Vs

namespace Go.Vs

theorem chgV_lt {h : Hist} {a b : Int} : (chgV h a b).length < 2000000 := by have := chgV_len (h := h) (a := a) (b := b); omega
theorem law_StoreAtLog (code : List UInt8) : M.laws_FnStoreAtLog code = some true := by
  unfold M.laws_FnStoreAtLog
  by_cases hc : 1048576 < (code.length : Int)
  · simp [hc]
  obtain ⟨h, a, b, hd, n⟩ := drawCK_ok code
  have s := n.small
  simp only [hc, decide_false, cond_false, hd, Option.bind_some, specChg_ok s, implChg_ok s, specVHi_ok s, implVHi2_ok s, equalInts_ok chgV_lt, decide_true, Bool.not_true]
  cases ok : okHi h with
  | false => simp
  | true =>
    by_cases a0 : a < 0
    · simp [a0]
    by_cases a1 : 1000 < a
    · simp [a0, a1]
    by_cases b0 : b < 0
    · simp [a0, a1, b0]
    by_cases b1 : 1000 < b
    · simp [a0, a1, b0, b1]
    have ox := storeAt_ok (h := h) (t := a)
    have oy := storeAt_ok (h := h) (t := b)
    obtain ⟨q1, q2⟩ := logB_done ox oy
    have hL : logBV (storeAt h a) (storeAt h b) = logB (storeAt h a) (storeAt h b) := if_pos ⟨ox, oy⟩
    have hR : repV (storeAt h a) (logB (storeAt h a) (storeAt h b)) = (storeAt h b, ((chgV h a b).length : Int)) := by
      rw [repV_of ox (logB_ok ox oy), q1, q2, chgV_of ok (by omega) (by omega), logB_chgK ox oy]
    simp only [a0, a1, b0, b1, decide_false, cond_false, Bool.not_true, Option.bind_some, specAt_ok s, implAt_ok s, specLogB_ok storeAt_near storeAt_near, implLogB_ok storeAt_near storeAt_near, hL, specReplay_ok storeAt_near (logB_small ox oy), implReplay_ok storeAt_near (logB_small ox oy), hR, equalItems_ok storeAt_near, decide_true, beq_self_eq_true, cond_true]
end Go.Vs
