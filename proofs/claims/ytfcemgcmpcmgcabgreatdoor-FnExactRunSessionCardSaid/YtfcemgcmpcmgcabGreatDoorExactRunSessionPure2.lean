/- Plain facts of what the functions compute. -/
import Derived.Test.YtfcemgcmpcmgcabGreatDoorExactRunSessionPure1
import Derived.Test.YtfcemgcmpcmgcabGreatDoorExactRunSessionLib1
import Derived.Lib.SplitLaws
import Derived.Lib.IndexBytes
set_option linter.unusedVariables false
set_option linter.unusedSimpArgs false
namespace Go.Vs
open Go

theorem decDigits_eq (n : Nat) : Lib.decDigits n = decN n := by
  induction n using Nat.strongRecOn with
  | _ n ih =>
    by_cases h : n < 10
    · rw [Lib.decDigits, dif_pos h, decN_small h]
    · rw [Lib.decDigits, dif_neg h, decN_big h, ih (n / 10) (by omega)]
theorem itoa_eq (n : Int) : Lib.itoa n = decI n := by
  unfold Lib.itoa decI
  simp only [decDigits_eq]
theorem implItoa_ok {n : Int} (h : inR n) : M.strconv_Itoa n = some (bsq (decI n)) := by
  unfold M.strconv_Itoa M.itoa
  unfold inR at h
  rw [if_pos (by omega), itoa_eq]
  rfl

theorem indexByte_cut {c : UInt8} {q : List UInt8} : ∀ {p : List UInt8}, c ∉ p → Lib.indexByte (p ++ c :: q) c = (p.length : Int)
  | [], _ => by simp [Lib.indexByte]
  | b :: p, h => by
    simp only [List.mem_cons, not_or] at h
    have e : (b == c) = false := beq_false_of_ne (fun e => h.1 e.symm)
    have ih := indexByte_cut (q := q) h.2
    have e2 : ((p.length : Int) == -1) = false := beq_false_of_ne (by omega)
    simp only [List.cons_append, Lib.indexByte, e, ih, e2, List.length_cons]
    simp
theorem cut_or (c : UInt8) : ∀ l : List UInt8, c ∉ l ∨ ∃ p q, l = p ++ c :: q ∧ c ∉ p
  | [] => .inl (by simp)
  | b :: r => by
    by_cases h : b = c
    · exact .inr ⟨[], r, by simp [h], by simp⟩
    · rcases cut_or c r with h1 | ⟨p, q, rfl, h1⟩
      · exact .inl (by simp only [List.mem_cons, not_or]; exact ⟨fun e => h e.symm, h1⟩)
      · exact .inr ⟨b :: p, q, rfl, by simp only [List.mem_cons, not_or]; exact ⟨fun e => h e.symm, h1⟩⟩
theorem splitK_eq (c : UInt8) : ∀ (n : Nat) (l : List UInt8), l.length = n → Lib.splitK [c] 0 (l.count c) l = splitL c l := by
  intro n
  induction n using Nat.strongRecOn with
  | _ n ih =>
    intro l hl
    rcases cut_or c l with h | ⟨p, q, rfl, h⟩
    · rw [List.count_eq_zero.2 h, splitL_none h]; rfl
    · have hc : (p ++ c :: q).count c = q.count c + 1 := by
        rw [List.count_append, List.count_eq_zero.2 h, List.count_cons_self]; omega
      have hi : Lib.index (p ++ c :: q) [c] = (p.length : Int) := (Lib.index_one _ _).trans (indexByte_cut h)
      have e2 : ((p.length : Int) == -1) = false := beq_false_of_ne (by omega)
      have := ih q.length (by simp at hl; omega) q rfl
      rw [hc, splitL_cut h, Lib.splitK, hi, e2]
      simp only [Bool.false_eq_true, if_false, Int.toNat_natCast, Nat.add_zero, List.length_singleton]
      rw [List.take_left, ← List.drop_drop, List.drop_left]
      simp [this]
theorem implSplit_ok {s : ByteArray} {c : UInt8} (hs : (ln s).length ≤ 1048576) : M.strings_Split s (ByteArray.mk #[c]) = some ((splitL c (ln s)).map bsq) := by
  unfold M.strings_Split M.ssplit
  rw [if_pos ⟨by have : s.size = (ln s).length := rfl; omega, Nat.le_refl _⟩]
  congr 1
  have h1 : (Lib.splitB (ByteArray.mk #[c]) 0 (Lib.countB s (ByteArray.mk #[c])) s).map ln = splitL c (ln s) := by
    have := Lib.splitB_data (ByteArray.mk #[c]) 0 (Lib.countB s (ByteArray.mk #[c])) s
    refine this.trans ?_
    have hc : Lib.countB s (ByteArray.mk #[c]) = (ln s).count c := Lib.count_one c (ln s)
    rw [hc]
    exact splitK_eq c _ (ln s) rfl
  have h2 := congrArg (List.map bsq) h1
  rw [List.map_map] at h2
  rw [← h2]
  have : (bsq ∘ ln) = id := by funext t; exact bsq_ln t
  rw [this, List.map_id]

theorem decFrom_scan : ∀ (r : List UInt8) (n : Nat), scan r false (n : Int) = (Lib.decFrom n r).map fun m : Nat => (m : Int)
  | [], n => rfl
  | b :: r, n => by
    unfold scan Lib.decFrom Lib.digitVal
    by_cases h : 48 ≤ b.toNat ∧ b.toNat ≤ 57
    · rw [if_pos h, if_pos h]
      have e : (10 * (n : Int) + ((b.toNat : Int) - 48)) = ((n * 10 + (b.toNat - 48) : Nat) : Int) := by omega
      rw [e]
      exact decFrom_scan r _
    · rw [if_neg h, if_neg h, if_neg (by simp)]; rfl
theorem decN_head (n : Nat) : ∃ b r, decN n = b :: r ∧ 48 ≤ b.toNat ∧ b.toNat ≤ 57 := by
  induction n using Nat.strongRecOn with
  | _ n ih =>
    by_cases h : n < 10
    · refine ⟨_, [], decN_small h, ?_, ?_⟩ <;> (rw [UInt8.toNat_ofNat']; omega)
    · obtain ⟨b, r, e, h1, h2⟩ := ih (n / 10) (by omega)
      exact ⟨b, r ++ [UInt8.ofNat (48 + n % 10)], by rw [decN_big h, e]; rfl, h1, h2⟩
theorem decI_43 (n : Int) (r : List UInt8) : decI n ≠ 43 :: r := by
  unfold decI
  split
  · simp
  · obtain ⟨b, t, e, h1, h2⟩ := decN_head n.toNat
    rw [e]
    intro q
    rw [(List.cons.inj q).1] at h1
    exact absurd h1 (by decide)
theorem decI_45 (n : Int) : decI n ≠ [45] := by
  unfold decI
  split
  · obtain ⟨b, t, e, h1, h2⟩ := decN_head n.natAbs
    rw [e]; simp
  · obtain ⟨b, t, e, h1, h2⟩ := decN_head n.toNat
    rw [e]
    intro q
    rw [(List.cons.inj q).1] at h1
    exact absurd h1 (by decide)
theorem atoi_cons (b : UInt8) (r : List UInt8) : Lib.atoi (b :: r) = if b == 45 then (Lib.decNat r).map fun (m : Nat) => -(m : Int) else if b == 43 then (Lib.decNat r).map fun (m : Nat) => (m : Int) else (Lib.decNat (b :: r)).map fun (m : Nat) => (m : Int) := rfl
noncomputable def parA (l : List UInt8) : Int × Bool :=
  if l.length ≤ 4 then
    match Lib.atoi l with
    | none => (0, false)
    | some n => if decI n = l then (n, true) else (0, false)
  else (0, false)
theorem parA_eq (l : List UInt8) : parA l = parV l := by
  unfold parA parV
  by_cases h4 : l.length ≤ 4
  · rw [if_pos h4]
    cases l with
    | nil => rw [if_neg (by simp)]; rfl
    | cons b r =>
      rw [if_pos ⟨by simp, h4⟩]
      rw [atoi_cons]
      by_cases h45 : b = 45
      · subst h45
        rw [if_pos (by decide)]
        have hsc : scan (45 :: r) true 0 = (Lib.decFrom 0 r).map fun m : Nat => (m : Int) := by
          unfold scan
          rw [if_neg (by decide), if_pos ⟨rfl, rfl⟩]
          exact decFrom_scan r 0
        rw [hsc]
        cases r with
        | nil =>
          have : Lib.decNat [] = none := rfl
          rw [this, show Lib.decFrom 0 [] = some 0 from rfl]
          simp only [Option.map_none, Option.map_some]
          rw [if_neg (decI_45 _)]
        | cons c t =>
          have : Lib.decNat (c :: t) = Lib.decFrom 0 (c :: t) := rfl
          rw [this]
          cases Lib.decFrom 0 (c :: t) with
          | none => rfl
          | some m => simp [signed]
      · have e45 : (b == 45) = false := beq_false_of_ne h45
        rw [if_neg (by simp [e45])]
        by_cases h43 : b = 43
        · subst h43
          rw [if_pos (by decide)]
          have hsc : scan (43 :: r) true 0 = none := by
            unfold scan
            rw [if_neg (by decide), if_neg (by simp)]
          rw [hsc]
          cases (Lib.decNat r).map fun m : Nat => (m : Int) with
          | none => rfl
          | some n => simp only; rw [if_neg (decI_43 n r)]
        · have e43 : (b == 43) = false := beq_false_of_ne h43
          rw [if_neg (by simp [e43])]
          have : Lib.decNat (b :: r) = Lib.decFrom 0 (b :: r) := rfl
          rw [this]
          have hsc : scan (b :: r) true 0 = (Lib.decFrom 0 (b :: r)).map fun m : Nat => (m : Int) := by
            unfold scan Lib.decFrom Lib.digitVal
            by_cases h : 48 ≤ b.toNat ∧ b.toNat ≤ 57
            · rw [if_pos h, if_pos h]
              have e : (10 * (0 : Int) + ((b.toNat : Int) - 48)) = ((0 * 10 + (b.toNat - 48) : Nat) : Int) := by omega
              rw [e]
              exact decFrom_scan r _
            · rw [if_neg h, if_neg h, if_neg (fun q => h45 q.2)]; rfl
          rw [hsc]
          cases Lib.decFrom 0 (b :: r) with
          | none => rfl
          | some m => simp [signed, h45]
  · rw [if_neg h4, if_neg (fun q => h4 q.2)]
theorem atoi_small {l : List UInt8} (h4 : l.length ≤ 4) {n : Int} (h : Lib.atoi l = some n) : inR n := by
  have hb : ∀ (r : List UInt8) (m : Nat), r.length ≤ 4 → Lib.decFrom 0 r = some m → (m : Int) ≤ 100000 := by
    intro r m hr hm
    have h1 := decFrom_scan r 0
    rw [hm] at h1
    obtain ⟨h2, h3⟩ := scan_bound r false 0 m (by omega) h1
    have hp : (10 : Int) ^ r.length ≤ 10000 := by
      have : r.length = 0 ∨ r.length = 1 ∨ r.length = 2 ∨ r.length = 3 ∨ r.length = 4 := by omega
      rcases this with e | e | e | e | e <;> rw [e] <;> decide
    omega
  have hN : ∀ (r : List UInt8) (m : Nat), r.length ≤ 4 → Lib.decNat r = some m → (m : Int) ≤ 100000 := by
    intro r m hr hm
    unfold Lib.decNat at hm
    split at hm
    · cases hm
    · exact hb r m hr hm
  unfold inR
  cases l with
  | nil => cases h
  | cons b r =>
    rw [atoi_cons] at h
    have hr : r.length ≤ 4 := by simp only [List.length_cons] at h4; omega
    split at h
    · obtain ⟨m, hm, rfl⟩ := Option.map_eq_some_iff.1 h
      have := hN r m hr hm; omega
    · split at h
      · obtain ⟨m, hm, rfl⟩ := Option.map_eq_some_iff.1 h
        have := hN r m hr hm; omega
      · obtain ⟨m, hm, rfl⟩ := Option.map_eq_some_iff.1 h
        have := hN (b :: r) m h4 hm; omega
theorem implParse_ok (s : ByteArray) : M.impl_parseNumber s = some (parV (ln s)) := by
  rw [← parA_eq]
  unfold M.impl_parseNumber parA
  have hsz : (s.size : Int) = ((ln s).length : Int) := rfl
  by_cases h4 : (ln s).length ≤ 4
  · have d1 : decide (4 < (s.size : Int)) = false := decide_eq_false (by omega)
    rw [if_pos h4, d1, cond_false]
    unfold M.strconv_Atoi M.atoi
    rw [if_pos (by have : s.size = (ln s).length := rfl; omega), Option.bind_some]
    show Option.bind _ _ = some (match Lib.atoi (ln s) with | none => _ | some n => _)
    cases ha : Lib.atoi (ln s) with
    | none => simp [show Lib.atoi s.data.toList = none from ha]
    | some n =>
      have hr := atoi_small h4 ha
      simp only [show Lib.atoi s.data.toList = some n from ha]
      simp only [bne_self_eq_false, cond_false, implItoa_ok hr, Option.bind_some, toList_ln, ln_bsq]
      by_cases e : decI n = ln s
      · simp [e]
      · rw [beq_false_of_ne e]; simp [e]
  · have d1 : decide (4 < (s.size : Int)) = true := decide_eq_true (by omega)
    rw [if_neg h4, d1, cond_true]
theorem implNum_ok (s : ByteArray) : M.impl_readNumber s = some (numV (ln s)) := by
  unfold M.impl_readNumber numV
  simp only [implParse_ok, Option.bind_some]
  cases (parV (ln s)).2 <;> simp
theorem implVec_ok {s : ByteArray} (h : (ln s).length ≤ 1048576) : M.impl_readVector s = some (vecV (ln s)) := by
  unfold M.impl_readVector vecV
  simp only [implSplit_ok h, Option.bind_some]
  have hn := splitL_len 44 (ln s)
  generalize splitL 44 (ln s) = ps at *
  have hz : (([] : List Int), (0 : Int)) = ((fun i => (ps.take i).map fun p => (parV p).1) 0, 0) := rfl
  rw [hz, loop_scan (xs := ps) (P := fun p => (parV p).2) (st := fun i => (ps.take i).map fun p => (parV p).1) (t := ps.map fun p => (parV p).1) (r := [])]
  · by_cases hall : ps.all (fun p => (parV p).2) = true
    · simp only [hall, if_true, Option.bind_some, selim]
    · rw [if_neg hall, if_neg hall]; rfl
  · intro i hi _ hpi
    have e1 : decide ((i : Int) < ((ps.map bsq).length : Int)) = true := decide_eq_true (by simp; omega)
    have e2 : w64 ((i : Int) + 1) = (i : Int) + 1 := w64_id (by omega) (by omega)
    have g : gidx (ps.map bsq) (i : Int) = some (bsq ps[i]) := by rw [gidx_nat (by simpa using hi)]; simp
    simp only [e1, cond_true, g, Option.bind_some, implParse_ok, ln_bsq, hpi, Bool.not_true, cond_false, e2]
    rw [gapp_ok (by simp; omega), List.take_succ_eq_append_getElem hi, List.map_append]
    rfl
  · intro i hi _ hpi
    have e1 : decide ((i : Int) < ((ps.map bsq).length : Int)) = true := decide_eq_true (by simp; omega)
    have g : gidx (ps.map bsq) (i : Int) = some (bsq ps[i]) := by rw [gidx_nat (by simpa using hi)]; simp
    simp only [e1, cond_true, g, Option.bind_some, implParse_ok, ln_bsq, hpi, Bool.not_false]
  · intro _
    have e1 : decide ((ps.length : Int) < ((ps.map bsq).length : Int)) = false := decide_eq_false (by simp)
    simp only [e1, cond_false, List.take_length]
end Go.Vs

namespace Go.Vs
open Go

theorem wd_drop {w : List (List UInt8)} {i : Nat} (h : i + 1 < w.length) : gidx ((w.drop 1).map bsq) (i : Int) = some (bsq (wd w (i + 1))) := by
  cases w with
  | nil => simp at h
  | cons b t => exact wd_get (w := t) (i := i) (by simpa using h)
theorem implSesPut_ok {d : Desk} {w : List (List UInt8)} (h : okD d) (hw : w.length = 4) (sz : ∀ p ∈ w, p.length ≤ 1048575) :
    M.impl_session_put (d.1, d.2) ((w.drop 1).map bsq) = some (bsq (putD d (numV (wd w 1), vecV (wd w 2), numV (wd w 3))).1, (putD d (numV (wd w 1), vecV (wd w 2), numV (wd w 3))).2) := by
  have g0 : gidx ((w.drop 1).map bsq) 0 = some (bsq (wd w 1)) := wd_drop (i := 0) (by omega)
  have g1 : gidx ((w.drop 1).map bsq) 1 = some (bsq (wd w 2)) := wd_drop (i := 1) (by omega)
  have g2 : gidx ((w.drop 1).map bsq) 2 = some (bsq (wd w 3)) := wd_drop (i := 2) (by omega)
  have s2 := sz _ (wd_mem (w := w) (i := 2) (by omega))
  have hv := vecV_len (wd w 2)
  have hp := implPutItem_ok (x := (numV (wd w 1), vecV (wd w 2), numV (wd w 3))) (okStore_small h.1) (by simp only; omega)
  unfold M.impl_session_put putD
  simp only [g0, g1, g2, Option.bind_some, implNum_ok, implVec_ok (s := bsq (wd w 2)) (by rw [ln_bsq]; omega), ln_bsq]
  simp only at hp
  simp only [hp, Option.bind_some, M.impl_session_become, kOk, kNo]
  cases (putItem d.1 (numV (wd w 1), vecV (wd w 2), numV (wd w 3))).2 <;> simp
theorem implSesDrop_ok {d : Desk} {w : List (List UInt8)} (h : okD d) (hw : w.length = 2) :
    M.impl_session_drop (d.1, d.2) ((w.drop 1).map bsq) = some (bsq (dropD d (numV (wd w 1))).1, (dropD d (numV (wd w 1))).2) := by
  have g0 : gidx ((w.drop 1).map bsq) 0 = some (bsq (wd w 1)) := wd_drop (i := 0) (by omega)
  unfold M.impl_session_drop dropD
  simp only [g0, Option.bind_some, implNum_ok, ln_bsq, implDropItem_ok (okStore_small h.1), M.impl_session_become, kOk, kNo]
  cases (dropItem d.1 (numV (wd w 1))).2 <;> simp
theorem implChoose_ok {d : Desk} {w : List (List UInt8)} (hw : w.length = 2) :
    M.impl_session_choose (d.1, d.2) ((w.drop 1).map bsq) = some (bsq (if isKind (numV (wd w 1)) = true then tOk else tNo), if isKind (numV (wd w 1)) = true then (d.1, numV (wd w 1)) else d) := by
  have g0 : gidx ((w.drop 1).map bsq) 0 = some (bsq (wd w 1)) := wd_drop (i := 0) (by omega)
  unfold M.impl_session_choose
  simp only [g0, Option.bind_some, implNum_ok, ln_bsq, implKind_ok, kOk, kNo]
  cases isKind (numV (wd w 1)) <;> simp
theorem implCount_ok {d : Desk} {ws : List ByteArray} (h : okD d) : M.impl_session_count (d.1, d.2) ws = some (bsq (decI (d.1.length : Int))) := by
  have hlen := (okStore_iff.1 h.1).1
  unfold M.impl_session_count
  simp only [implItoa_ok (show inR (d.1.length : Int) by unfold inR; omega), Option.bind_some]
theorem implPair_ok {d : Desk} {ws : List ByteArray} (h : okD d) : M.impl_session_pair (d.1, d.2) ws = some (bsq (pairD d)) := by
  obtain ⟨r1, r2⟩ := pair_inR h
  have l1 := decI_len r1
  have l2 := decI_len r2
  unfold M.impl_session_pair pairD
  simp only [implClosest_ok (okStore_small h.1), Option.bind_some, implItoa_ok r1, implItoa_ok r2, k32, kNo]
  cases hb : (closestPair d.1 d.2).2.2 with
  | false => simp
  | true =>
    simp only [Bool.not_true, cond_false, if_true]
    rw [gcat_at (by simp only [ln_bsq, List.length_singleton]; omega), Option.bind_some, gcat_at (by simp only [ln_bsq, List.length_append, List.length_singleton]; omega), Option.bind_some]
    simp [ln_bsq]
theorem joinHits : ∀ l : List Hit, Lib.join (l.map hitT) [32] = hitsP l
  | [] => rfl
  | [x] => by simp [Lib.join_one, hitsP]
  | x :: y :: t => by
    have ih := joinHits (y :: t)
    rw [List.map_cons, List.map_cons, Lib.join_cons] at *
    rw [hitsP, ← ih]
    simp [Lib.joinTail]
theorem implNearK_ok {d : Desk} {w : List (List UInt8)} (h : okD d) (hw : w.length = 3) (sz : ∀ p ∈ w, p.length ≤ 1048575) :
    M.impl_session_near (d.1, d.2) ((w.drop 1).map bsq) = some (bsq (nearK d (vecV (wd w 1)) (numV (wd w 2)))) := by
  have g0 : gidx ((w.drop 1).map bsq) 0 = some (bsq (wd w 1)) := wd_drop (i := 0) (by omega)
  have g1 : gidx ((w.drop 1).map bsq) 1 = some (bsq (wd w 2)) := wd_drop (i := 1) (by omega)
  have s1 := sz _ (wd_mem (w := w) (i := 1) (by omega))
  have hv := vecV_len (wd w 1)
  unfold M.impl_session_near nearK
  simp only [g0, g1, Option.bind_some, implNum_ok, implVec_ok (s := bsq (wd w 1)) (by rw [ln_bsq]; omega), ln_bsq]
  generalize vecV (wd w 1) = at_ at *
  generalize numV (wd w 2) = k at *
  have ha : at_.length < 2000000 := by omega
  have s := okStore_small h.1
  simp only [validSearch_ok s ha, implNearest_ok s ha, Option.bind_some, kNo]
  have hq : (okQuery d.1 d.2 at_ = true ∧ 1 ≤ k ∧ k ≤ 16) ↔ (isVec at_ = true ∧ 1 ≤ k ∧ k ≤ 16) := by
    rw [okQuery_iff]
    exact ⟨fun q => ⟨q.1.2.2, q.2⟩, fun q => ⟨⟨h.1, h.2, q.1⟩, q.2⟩⟩
  by_cases q : isVec at_ = true ∧ 1 ≤ k ∧ k ≤ 16
  · rw [if_pos q, decide_eq_true (hq.2 q)]
    simp only [Bool.not_true, cond_false]
    have hn : nearestL d.1 d.2 at_ k = topH k.toNat (hitsOf d.1 d.2 at_) := by unfold nearestL; rw [if_pos (hq.2 q)]
    rw [hn]
    have hx := near_inR (k := k.toNat) h q.1
    have hl := near_len (at_ := at_) (k := k.toNat) h
    generalize topH k.toNat (hitsOf d.1 d.2 at_) = l at *
    have hrun := loop_run (R := List ByteArray) (r := l.map fun x => bsq (hitT x)) (f := fun (s43 : (List ByteArray) × (Int)) => (bif decide (s43.2 < (l.length : Int)) then
  (gidx l s43.2).bind fun x48 =>
  (M.strconv_Itoa x48.1).bind fun r59 =>
  (gcat r59 (ByteArray.mk #[58])).bind fun s62 =>
  (M.strconv_Itoa x48.2).bind fun r65 =>
  (gcat s62 r65).bind fun s68 =>
  (gapp s43.1 ([s68] : List ByteArray)).bind fun xs72 =>
  some (.inl (xs72, w64 (s43.2 + 1)))
 else
  some (.inr s43.1))) l.length (fun i => ((l.take i).map fun x => bsq (hitT x), (i : Int))) ?_ ?_
    · have hz : (([] : List ByteArray), (0 : Int)) = ((l.take 0).map fun x => bsq (hitT x), ((0 : Nat) : Int)) := rfl
      rw [hz, hrun, Option.bind_some]
      unfold M.strings_Join M.sjoin
      have e1 : (l.map fun x => bsq (hitT x)).map (fun s : ByteArray => s.data.toList) = l.map hitT := by
        rw [List.map_map]; rfl
      have e2 : (ByteArray.mk #[32]).data.toList = [32] := rfl
      have hlen := hitsP_len hx
      rw [e1, e2, joinHits, if_pos ⟨by rw [List.length_map]; omega, by omega⟩]
      rfl
    · intro i hi
      have d1 : decide ((i : Int) < (l.length : Int)) = true := decide_eq_true (by omega)
      have e6 : w64 ((i : Int) + 1) = (i : Int) + 1 := w64_id (by omega) (by omega)
      obtain ⟨r1, r2⟩ := hx _ (List.getElem_mem hi)
      have l1 := decI_len r1
      have l2 := decI_len r2
      simp only [d1, cond_true, gidx_nat hi, Option.bind_some, implItoa_ok r1, implItoa_ok r2, k58, e6]
      rw [gcat_at (by simp only [ln_bsq, List.length_singleton]; omega), Option.bind_some, gcat_at (by simp only [ln_bsq, List.length_append, List.length_singleton]; omega), Option.bind_some, gapp_ok (by simp; omega), Option.bind_some]
      rw [List.take_succ_eq_append_getElem hi, List.map_append]
      simp [ln_bsq, hitT]
    · have d1 : decide ((l.length : Int) < (l.length : Int)) = false := decide_eq_false (by omega)
      simp only [d1, cond_false, List.take_length]
  · rw [if_neg q, decide_eq_false (fun e => q (hq.1 e))]
    simp
end Go.Vs

namespace Go.Vs
open Go

theorem bsq_beq (a b : List UInt8) : (bsq a == ByteArray.mk b.toArray) = decide (a = b) := by
  show (a.toArray == b.toArray) = _
  by_cases h : a = b
  · simp [h]
  · have : (a.toArray == b.toArray) = false := by simp [h]
    rw [this, decide_eq_false h]
theorem splitL_one {c : UInt8} : ∀ {l x : List UInt8}, splitL c l = [x] → l = x
  | [], x, h => by simp [splitL] at h; exact h.symm
  | b :: r, x, h => by
    unfold splitL at h
    split at h
    · simp only [List.cons.injEq] at h
      exact absurd h.2 (splitL_ne c r)
    · split at h
      · rename_i q; exact absurd q (splitL_ne c r)
      · rename_i y t q
        simp only [List.cons.injEq] at h
        obtain ⟨rfl, rfl⟩ := h
        rw [splitL_one q]
theorem line_whole {l K : List UInt8} (hK : splitL 32 K = [K]) : l = K ↔ (wd (splitL 32 l) 0 = K ∧ (splitL 32 l).length = 1) := by
  constructor
  · rintro rfl
    rw [hK]; exact ⟨rfl, rfl⟩
  · rintro ⟨h1, h2⟩
    obtain ⟨x, hx⟩ := List.length_eq_one_iff.1 h2
    rw [splitL_one hx, ← h1, hx]; rfl
theorem whole_what {w : List (List UInt8)} (hne : w ≠ []) (m : Nat) : ((w64 (((w.map bsq).length : Int) - 1)) != (m : Int)) = decide (w.length ≠ m + 1) ∨ ¬ w.length ≤ 1000000000 := by
  by_cases hb : w.length ≤ 1000000000
  · left
    have hl : 0 < w.length := List.length_pos_iff.2 hne
    rw [List.length_map, w64_id (by omega) (by omega)]
    by_cases e : w.length = m + 1
    · have : ((w.length : Int) - 1) = (m : Int) := by omega
      rw [this]; simp [e]
    · have : ((w.length : Int) - 1) ≠ (m : Int) := by omega
      rw [bne_iff_ne.2 this, decide_eq_true e]
  · exact .inr hb
theorem implLine_ok {d : Desk} {s : ByteArray} (h : okD d) (hs : (ln s).length ≤ 1048575) : M.impl_runLine__cm (d.1, d.2) s = some (bsq (lineD d (ln s)).1, (lineD d (ln s)).2) := by
  unfold M.impl_runLine__cm
  have hsp := implSplit_ok (s := s) (c := 32) (by omega)
  have hpart := fun p hp => splitL_part (c := 32) (l := ln s) (p := p) hp
  have hne := splitL_ne 32 (ln s)
  have hlen := splitL_len 32 (ln s)
  have w5 := line_whole (l := ln s) (K := [112, 97, 105, 114]) rfl
  have w6 := line_whole (l := ln s) (K := [99, 111, 117, 110, 116]) rfl
  generalize hl : ln s = l at *
  unfold lineD
  simp only [hsp, Option.bind_some, w5, w6]
  generalize splitL 32 l = w at *
  have sz : ∀ p ∈ w, p.length ≤ 1048575 := fun p hp => by have := hpart p hp; omega
  have hl0 : 0 < w.length := List.length_pos_iff.2 hne
  have g : gidx (w.map bsq) 0 = some (bsq (wd w 0)) := wd_get (i := 0) hl0
  have gs : gslice (w.map bsq) 1 ((w.map bsq).length : Int) = some ((w.drop 1).map bsq) := by
    rw [gslice_ok (by omega) (by rw [List.length_map]; omega) (by omega), Int.toNat_natCast, List.take_length]
    show some ((w.map bsq).drop 1) = _
    rw [List.map_drop]
  have b := fun m => (whole_what hne m).resolve_right (fun q => q (by omega))
  have b0 := b 0
  have b1 := b 1
  have b2 := b 2
  have b3 := b 3
  simp only [Int.cast_ofNat_Int] at b0 b1 b2 b3
  have e1 : (bsq (wd w 0) == ByteArray.mk #[112, 117, 116]) = decide (wd w 0 = [112, 117, 116]) := bsq_beq _ _
  have e2 : (bsq (wd w 0) == ByteArray.mk #[100, 114, 111, 112]) = decide (wd w 0 = [100, 114, 111, 112]) := bsq_beq _ _
  have e3 : (bsq (wd w 0) == ByteArray.mk #[110, 101, 97, 114]) = decide (wd w 0 = [110, 101, 97, 114]) := bsq_beq _ _
  have e4 : (bsq (wd w 0) == ByteArray.mk #[107, 105, 110, 100]) = decide (wd w 0 = [107, 105, 110, 100]) := bsq_beq _ _
  have e5 : (bsq (wd w 0) == ByteArray.mk #[112, 97, 105, 114]) = decide (wd w 0 = [112, 97, 105, 114]) := bsq_beq _ _
  have e6 : (bsq (wd w 0) == ByteArray.mk #[99, 111, 117, 110, 116]) = decide (wd w 0 = [99, 111, 117, 110, 116]) := bsq_beq _ _
  simp only [g, gs, Option.bind_some, b0, b1, b2, b3, e1, e2, e3, e4, e5, e6, kWhat]
  have p1 := fun q => implSesPut_ok (d := d) (w := w) h q sz
  have p2 := fun q => implSesDrop_ok (d := d) (w := w) h q
  have p3 := fun q => implNearK_ok (d := d) (w := w) h q sz
  have p4 := fun q => implChoose_ok (d := d) (w := w) q
  have p5 := implPair_ok (d := d) (ws := (w.drop 1).map bsq) h
  have p6 := implCount_ok (d := d) (ws := (w.drop 1).map bsq) h
  clear gs g e1 e2 e3 e4 e5 e6 b0 b1 b2 b3 b
  generalize (w.drop 1).map bsq = ws at *
  by_cases k1 : wd w 0 = [112, 117, 116]
  · by_cases q : w.length = 4
    · simp [k1, q, p1 q]
    · simp [k1, q]
  by_cases k2 : wd w 0 = [100, 114, 111, 112]
  · by_cases q : w.length = 2
    · simp [k2, q, p2 q]
    · simp [k2, q]
  by_cases k3 : wd w 0 = [110, 101, 97, 114]
  · by_cases q : w.length = 3
    · simp [k3, q, p3 q]
    · simp [k3, q]
  by_cases k4 : wd w 0 = [107, 105, 110, 100]
  · by_cases q : w.length = 2
    · simp only [k4, q, p4 q]
      cases isKind (numV (wd w 1)) <;> simp
    · simp [k4, q]
  by_cases k5 : wd w 0 = [112, 97, 105, 114]
  · by_cases q : w.length = 1
    · simp [k5, q, p5]
    · simp [k5, q]
  by_cases k6 : wd w 0 = [99, 111, 117, 110, 116]
  · by_cases q : w.length = 1
    · simp [k6, q, p6]
    · simp [k6, q]
  simp [k1, k2, k3, k4, k5, k6]
theorem implRun_ok {ls : List ByteArray} (h : ls.length ≤ 1048576) (hx : ∀ s ∈ ls, s.size ≤ 1048575) : M.impl_RunSession ls = some (bsq (sesV ((ls.take 20).map ln) ([], 1))) := by
  unfold M.impl_RunSession
  have g : gslice ls 0 (min (ls.length : Int) 20) = some (ls.take 20) := by
    rw [gslice_ok (by omega) (by omega) (by omega), show (min (ls.length : Int) 20).toNat = min ls.length 20 by omega]
    simp only [Int.toNat_zero, List.drop_zero, Option.some.injEq]
    by_cases q : ls.length ≤ 20
    · rw [Nat.min_eq_left q, List.take_length, List.take_of_length_le q]
    · rw [Nat.min_eq_right (by omega)]
  simp only [M.impl_session_commands, Option.bind_some, g]
  have hx' : ∀ s ∈ ls.take 20, s.size ≤ 1048575 := fun s hs => hx s (List.mem_of_mem_take hs)
  have hl20 : (ls.take 20).length ≤ 20 := by rw [List.length_take]; omega
  generalize ls.take 20 = xs at *
  have key : ∀ (m i : Nat) (d : Desk) (out : List UInt8), i + m = xs.length → okD d → out.length ≤ 2000 * i →
      loopM (fun (s18 : ((List (Int × (List Int) × Int)) × (Int)) × (List UInt8) × (Int)) => (bif decide (s18.2.2 < (xs.length : Int)) then
  (gidx xs s18.2.2).bind fun x24 =>
  (M.impl_runLine__cm (s18.1.1, s18.1.2) x24).bind fun r30 =>
  (M.strings_Builder_WriteString s18.2.1 r30.1).bind fun r36 =>
  (M.strings_Builder_WriteByte r36.2 (10 : UInt8)).bind fun r41 =>
  some (.inl ((r30.2.1, r30.2.2), r41, w64 (s18.2.2 + 1)))
 else
  some (.inr s18.2.1))) ((d.1, d.2), out, (i : Int)) = some (out ++ sesV ((xs.drop i).map ln) d) := by
    intro m
    induction m with
    | zero =>
      intro i d out him _ _
      rw [loopM_eq, List.drop_eq_nil_of_le (by omega)]
      have d1 : decide ((i : Int) < (xs.length : Int)) = false := decide_eq_false (by omega)
      simp only [d1, cond_false, selim, Option.bind_some, List.map_nil, sesV, List.append_nil]
    | succ m ih =>
      intro i d out him hd ho
      have hi : i < xs.length := by omega
      have d1 : decide ((i : Int) < (xs.length : Int)) = true := decide_eq_true (by omega)
      have hsz := hx' _ (List.getElem_mem hi)
      have hline := implLine_ok (d := d) (s := xs[i]) hd hsz
      have hlen := lineD_len (d := d) (l := ln xs[i]) hd
      have hok := lineD_ok (d := d) (l := ln xs[i]) hd
      have hw := w64_succ (i := i) (show i < 4000000000000000000 by omega)
      rw [loopM_eq, List.drop_eq_getElem_cons hi, List.map_cons, sesV]
      generalize lineD d (ln xs[i]) = r at hline hlen hok ⊢
      have hws : M.strings_Builder_WriteString out (bsq r.1) = some ((r.1.length : Int), out ++ r.1) := by
        show (if out.length + r.1.length ≤ 2147483648 then some _ else none) = _
        rw [if_pos (by omega)]; rfl
      have hwb : M.strings_Builder_WriteByte (out ++ r.1) 10 = some (out ++ r.1 ++ [10]) := by
        show (if (out ++ r.1).length + 1 ≤ 2147483648 then some _ else none) = _
        rw [if_pos (by rw [List.length_append]; omega)]
      simp only [d1, cond_true, Option.bind_some, gidx_nat hi, hline, hw, hws, hwb, selim]
      have := ih (i + 1) r.2 (out ++ r.1 ++ [10]) (by omega) hok (by simp only [List.length_append, List.length_singleton]; omega)
      rw [this]
      simp
  have := key xs.length 0 ([], 1) [] (by omega) ⟨rfl, rfl⟩ (by simp)
  simp only [List.nil_append, List.drop_zero, Int.cast_ofNat_Int] at this
  rw [this, Option.bind_some]
  rfl
theorem law_ExactRunSession (a : List ByteArray) (h : OkSs a) : M.laws_FnExactRunSession a = some true := by
  unfold M.laws_FnExactRunSession
  obtain ⟨s, es, hs⟩ := szStringS_ok h
  simp only [es, Option.bind_some]
  rcases hs with hs | ⟨h0, h1, h2⟩
  · simp [hs]
  have hm : ¬ s < 0 := by omega
  simp only [hm, decide_false, cond_false, toStringS_ok h1, Option.bind_some, specRun_ok h1 h2, implRun_ok h1 h2, eqStringS_self h1, beq_self_eq_true, Bool.not_true]
end Go.Vs
