/- Plain facts of what the functions compute. -/
import Derived.Test.YtfcemgcmpcmgcaaAddEntryEng1
import Derived.Test.YtfcemgcmpcmgcaaAddEntryLib1
set_option linter.unusedVariables false
set_option linter.unusedSimpArgs false
namespace Go.Vs

theorem loop_run {S R : Type} {f : S → Option (S ⊕ R)} {r : R} (k : Nat) (st : Nat → S) (hs : ∀ i, i < k → f (st i) = some (.inl (st (i + 1)))) (he : f (st k) = some (.inr r)) : loopM f (st 0) = some r := by
  induction k generalizing st with
  | zero => rw [loopM_eq, he]; rfl
  | succ k ih =>
    rw [loopM_eq, hs 0 (by omega)]
    exact ih (fun i => st (i + 1)) (fun i hi => hs (i + 1) (by omega)) he

theorem w64_nat {n : Nat} (h : n < 9223372036854775808) : w64 (n : Int) = n := w64_id (by omega) (by omega)
theorem gidx_nat {α : Type} {xs : List α} {i : Nat} (h : i < xs.length) : gidx xs (i : Int) = some xs[i] := by
  unfold gidx
  rw [if_pos (by omega)]
  simp [h]
theorem gidx_lt' {α : Type} {xs : List α} {a : Int} (h0 : 0 ≤ a) (h : a < xs.length) : ∃ e, gidx xs a = some e ∧ e ∈ xs := by
  obtain ⟨n, rfl⟩ := Int.eq_ofNat_of_zero_le h0
  have hn : n < xs.length := by omega
  exact ⟨xs[n], gidx_nat hn, List.getElem_mem _⟩
theorem gapp_ok {α : Type} {xs ys : List α} (h : xs.length + ys.length ≤ 2147483648) : gapp xs ys = some (xs ++ ys) := by unfold gapp; rw [if_pos h]
theorem grem_ok {a b : Int} (h : b ≠ 0) : grem a b = some (a.tmod b) := by unfold grem; rw [if_neg h]
theorem gquo_ok {a b : Int} (h : b ≠ 0) : gquo a b = some (w64 (a.tdiv b)) := by unfold gquo; rw [if_neg h]
theorem gslice_ok {α : Type} {xs : List α} {l h : Int} (h0 : 0 ≤ l) (h1 : l ≤ h) (h2 : h ≤ xs.length) : gslice xs l h = some ((xs.take h.toNat).drop l.toNat) := by
  unfold gslice; rw [if_pos ⟨h0, h1, h2⟩]
theorem gmake_ok {α : Type} {k : Int} {z : α} (h0 : 0 ≤ k) (h1 : k ≤ 2147483648) : gmake k z = some (List.replicate k.toNat z) := by unfold gmake; rw [if_pos ⟨h0, h1⟩]
theorem tmod_range {a b : Int} (ha : 0 ≤ a) (hb : 0 < b) : 0 ≤ a.tmod b ∧ a.tmod b < b := by
  rw [Int.tmod_eq_emod_of_nonneg ha]
  exact ⟨Int.emod_nonneg _ (by omega), Int.emod_lt_of_pos _ hb⟩
theorem tdiv_range {a b : Int} (ha : 0 ≤ a) (hb : 0 < b) : 0 ≤ a.tdiv b ∧ a.tdiv b ≤ a := by
  rw [Int.tdiv_eq_ediv_of_nonneg ha]
  exact ⟨Int.ediv_nonneg ha (by omega), Int.ediv_le_self _ ha⟩
theorem gxor_range {a b : Int} (ha : 0 ≤ a) (ha' : a < 4611686018427387904) (hb : 0 ≤ b) (hb' : b < 4611686018427387904) : 0 ≤ gxor a b ∧ gxor a b < 4611686018427387904 := by
  obtain ⟨m, rfl⟩ := Int.eq_ofNat_of_zero_le ha
  obtain ⟨n, rfl⟩ := Int.eq_ofNat_of_zero_le hb
  have h1 : (BitVec.ofInt 64 (m : Int) ^^^ BitVec.ofInt 64 (n : Int)).toNat = m ^^^ n := by
    rw [BitVec.toNat_xor]
    have e : ∀ k : Nat, k < 4611686018427387904 → (BitVec.ofInt 64 (k : Int)).toNat = k := by
      intro k hk
      simp only [BitVec.toNat_ofInt]
      omega
    rw [e m (by omega), e n (by omega)]
  have h2 : m ^^^ n < 2 ^ 62 := Nat.xor_lt_two_pow (by omega) (by omega)
  have h3 : (2 : Nat) ^ 62 = 4611686018427387904 := by decide
  unfold gxor
  rw [h1]
  have : w64 ((m ^^^ n : Nat) : Int) = (m ^^^ n : Nat) := w64_nat (by omega)
  show 0 ≤ w64 _ ∧ w64 _ < _
  rw [this]
  omega
theorem loop_all {α R : Type} {xs : List α} {P : α → Bool} {r : R} {f : Int → Option (Int ⊕ (Unit ⊕ R))} (hs : ∀ i (h : i < xs.length), f (i : Int) = some (if P xs[i] then .inl ((i : Int) + 1) else .inr (.inr r))) (he : f (xs.length : Int) = some (.inr (.inl ()))) :
    loopM f 0 = some (if xs.all P then .inl () else .inr r) := by
  have key : ∀ m k : Nat, k + m = xs.length → loopM f (k : Int) = some (if (xs.drop k).all P then .inl () else .inr r) := by
    intro m
    induction m with
    | zero =>
      intro k hk
      have : k = xs.length := by omega
      subst this
      rw [loopM_eq, he]; simp [selim]
    | succ m ih =>
      intro k hk
      have hlt : k < xs.length := by omega
      rw [loopM_eq, hs k hlt, List.drop_eq_getElem_cons hlt]
      by_cases hp : P xs[k] = true
      · rw [if_pos hp]
        have := ih (k + 1) (by omega)
        simp only [Int.natCast_add, Int.cast_ofNat_Int] at this
        simp only [List.all_cons, hp, Bool.true_and, selim, this, Option.bind_some]
      · rw [if_neg hp]
        simp only [List.all_cons, Bool.not_eq_true] at hp ⊢
        simp only [hp, Bool.false_and, selim, Option.bind_some]; rfl
  have := key xs.length 0 (by omega)
  simpa using this
end Go.Vs

namespace Go.Vs

def Good (k : Nat) (r : List UInt8 × Int) : Prop := r.1.length ≤ 2000 ∧ 0 ≤ r.2 ∧ r.2 ≤ k
theorem Good.mono {k m : Nat} {r : List UInt8 × Int} (h : Good k r) (hm : k ≤ m) : Good m r := ⟨h.1, h.2.1, by have := h.2.2; omega⟩

theorem pick_ok {k : Nat} (hk : k ≤ 1000000) {r : List UInt8 × Int} (hr : Good k r) (n : Int) :
    ∃ x r', M.spec_reader_pick r n = some (x, r') ∧ Good (k + 1) r' ∧ 0 ≤ x ∧ (1 ≤ n → x < n) ∧ (n < 1 → x = 0) := by
  obtain ⟨b, p⟩ := r
  obtain ⟨h1, h2, h3⟩ := hr
  simp only at h1 h2 h3
  have e1 : w64 (p + 1) = p + 1 := w64_id (by omega) (by omega)
  have e2 : w64 (p + 1 - 1) = p := by rw [w64_id (by omega) (by omega)]; omega
  have hgood : Good (k + 1) (b, p + 1) := ⟨h1, by simp only; omega, by simp only; omega⟩
  unfold M.spec_reader_pick
  simp only [e1, e2]
  by_cases hn : n < 1
  · refine ⟨0, (b, p + 1), ?_, hgood, by omega, fun h => by omega, fun _ => rfl⟩
    simp [hn]
  · by_cases hb : b.length = 0
    · refine ⟨0, (b, p + 1), ?_, hgood, by omega, fun h => by omega, fun _ => rfl⟩
      simp [hn, hb]
    · have hbl : (b.length : Int) ≠ 0 := by omega
      have hbb : ((b.length : Int) == 0) = false := by simpa using hb
      simp only [hn, decide_false, cond_false, hbb, Option.bind_some]
      by_cases hp : p < (b.length : Int)
      · obtain ⟨e, he, _⟩ := gidx_lt' (xs := b) h2 hp
        have hE : w64 (e.toNat : Int) = e.toNat := w64_nat (by have := e.toNat_lt; omega)
        have hr := tmod_range (a := (e.toNat : Int)) (b := n) (by omega) (by omega)
        refine ⟨_, (b, p + 1), ?_, hgood, hr.1, fun _ => hr.2, fun h => h.elim⟩
        simp only [hp, decide_true, cond_true, he, Option.bind_some, hE, grem_ok (show n ≠ 0 by omega)]
      · simp only [hp, decide_false, cond_false]
        have hbp : 0 < (b.length : Int) := by omega
        have r1 := tmod_range (a := p) h2 hbp
        have e7 : w64 (w64 (p * 7) + 3) = p * 7 + 3 := by rw [w64_id (n := p * 7) (by omega) (by omega), w64_id (by omega) (by omega)]
        have r2 := tmod_range (a := p * 7 + 3) (b := (b.length : Int)) (by omega) hbp
        obtain ⟨x, hx, _⟩ := gidx_lt' (xs := b) r1.1 r1.2
        obtain ⟨y, hy, _⟩ := gidx_lt' (xs := b) r2.1 r2.2
        have hX : (x.toNat : Int) < 256 := by have := x.toNat_lt; omega
        have hY : (y.toNat : Int) < 256 := by have := y.toNat_lt; omega
        have r3 := tdiv_range (a := p) (b := (b.length : Int)) h2 hbp
        simp only [grem_ok hbl, Option.bind_some, hx, e7, hy, gquo_ok hbl]
        generalize hq : w64 (p.tdiv (b.length : Int)) = q
        have hq' : 0 ≤ q ∧ q ≤ 1000000 := by rw [← hq, w64_id (by omega) (by omega)]; omega
        have eX : w64 (x.toNat : Int) = x.toNat := w64_id (by omega) (by omega)
        have eY : w64 (y.toNat : Int) = y.toNat := w64_id (by omega) (by omega)
        simp only [eX, eY]
        have eX' : w64 ((x.toNat : Int) * 131) = x.toNat * 131 := w64_id (by omega) (by omega)
        have eY' : w64 ((y.toNat : Int) * 1117) = y.toNat * 1117 := w64_id (by omega) (by omega)
        have eP : w64 (p * 29) = p * 29 := w64_id (by omega) (by omega)
        have eQ : w64 (q * 53) = q * 53 := w64_id (by omega) (by omega)
        simp only [eX', eY', eP, eQ]
        have eA : w64 ((x.toNat : Int) * 131 + y.toNat * 1117) = x.toNat * 131 + y.toNat * 1117 := w64_id (by omega) (by omega)
        simp only [eA]
        have eB : w64 ((x.toNat : Int) * 131 + y.toNat * 1117 + p * 29) = x.toNat * 131 + y.toNat * 1117 + p * 29 := w64_id (by omega) (by omega)
        simp only [eB]
        have eC : w64 ((x.toNat : Int) * 131 + y.toNat * 1117 + p * 29 + q * 53) = x.toNat * 131 + y.toNat * 1117 + p * 29 + q * 53 := w64_id (by omega) (by omega)
        simp only [eC]
        generalize hZ : (x.toNat : Int) * 131 + y.toNat * 1117 + p * 29 + q * 53 = Z
        have hZ' : 0 ≤ Z ∧ Z ≤ 1000000000 := by omega
        have r4 := tdiv_range (a := Z) (b := 64) hZ'.1 (by omega)
        have eD : w64 (Z.tdiv 64) = Z.tdiv 64 := w64_id (by omega) (by omega)
        rw [eD]
        have r5 := gxor_range (a := Z) (b := Z.tdiv 64) (by omega) (by omega) (by omega) (by omega)
        have r6 := tmod_range (a := gxor Z (Z.tdiv 64)) (b := n) r5.1 (by omega)
        refine ⟨_, (b, p + 1), ?_, hgood, r6.1, fun _ => r6.2, fun h => h.elim⟩
        simp only [grem_ok (show n ≠ 0 by omega), Option.bind_some]

theorem one_ok {k : Nat} (hk : k ≤ 1000000) {r : List UInt8 × Int} (hr : Good k r) {list : List Int} (hl : list ≠ []) :
    ∃ x r', M.spec_reader_one r list = some (x, r') ∧ Good (k + 1) r' ∧ x ∈ list := by
  obtain ⟨x, r', h1, h2, h3, h4, _⟩ := pick_ok hk hr (list.length : Int)
  have hlen : 1 ≤ (list.length : Int) := by
    have : list.length ≠ 0 := by simpa using hl
    omega
  obtain ⟨e, he, hm⟩ := gidx_lt' h3 (h4 hlen)
  refine ⟨e, r', ?_, h2, hm⟩
  unfold M.spec_reader_one
  simp only [h1, Option.bind_some, he]

theorem coord_ok {k : Nat} (hk : k ≤ 900000) {r : List UInt8 × Int} (hr : Good k r) :
    ∃ x r', M.spec_someCoord r = some (x, r') ∧ Good (k + 3) r' ∧ -100 ≤ x ∧ x ≤ 100 := by
  obtain ⟨x1, r1, h1, g1, a1, b1, _⟩ := pick_ok (by omega) hr 201
  obtain ⟨x2, r2, h2, g2, a2, b2, _⟩ := pick_ok (by omega) g1 21
  have b1 := b1 (by omega)
  have b2 := b2 (by omega)
  have e1 : w64 (x1 - 100) = x1 - 100 := w64_id (by omega) (by omega)
  have e2 : w64 (x2 - 10) = x2 - 10 := w64_id (by omega) (by omega)
  obtain ⟨x3, r3, h3, g3, m3⟩ := one_ok (by omega) g2 (list := [0, 1, -1, 5, -7, 10, 3, 100, -100, x1 - 100, x2 - 10]) (by simp)
  refine ⟨x3, r3, ?_, g3, ?_⟩
  · unfold M.spec_someCoord
    simp only [h1, Option.bind_some, h2, e1, e2, h3]
  · simp only [List.mem_cons, List.not_mem_nil, or_false] at m3
    omega

def isVec (v : List Int) : Bool := decide (v.length = 4) && v.all fun x => decide (-100 ≤ x) && decide (x ≤ 100)
theorem isVec_iff {v : List Int} : isVec v = true ↔ v.length = 4 ∧ ∀ x ∈ v, -100 ≤ x ∧ x ≤ 100 := by
  unfold isVec; simp
theorem vector_ok {k : Nat} (hk : k ≤ 800000) {r : List UInt8 × Int} (hr : Good k r) :
    ∃ v r', M.spec_someVector r = some (v, r') ∧ Good (k + 12) r' ∧ isVec v = true := by
  obtain ⟨x1, r1, h1, g1, a1, b1⟩ := coord_ok (by omega) hr
  obtain ⟨x2, r2, h2, g2, a2, b2⟩ := coord_ok (by omega) g1
  obtain ⟨x3, r3, h3, g3, a3, b3⟩ := coord_ok (by omega) g2
  obtain ⟨x4, r4, h4, g4, a4, b4⟩ := coord_ok (by omega) g3
  refine ⟨[x1, x2, x3, x4], r4, ?_, g4, isVec_iff.2 ⟨rfl, by simp only [List.mem_cons, List.not_mem_nil, or_false]; rintro x (rfl | rfl | rfl | rfl) <;> omega⟩⟩
  have e : ∀ n : Nat, n < 10 → w64 ((n : Int) + 1) = (n : Int) + 1 := fun n hn => w64_id (by omega) (by omega)
  have e0 : w64 ((0 : Int) + 1) = 1 := e 0 (by omega)
  have e1 : w64 ((1 : Int) + 1) = 2 := e 1 (by omega)
  have e2 : w64 ((2 : Int) + 1) = 3 := e 2 (by omega)
  have e3 : w64 ((3 : Int) + 1) = 4 := e 3 (by omega)
  have ga : ∀ (xs : List Int) (x : Int), xs.length < 10 → gapp xs [x] = some (xs ++ [x]) := fun xs x hx => gapp_ok (by simp; omega)
  unfold M.spec_someVector
  rw [loopM_eq]
  simp only [show decide ((0 : Int) < 4) = true from rfl, cond_true, h1, Option.bind_some, ga [] x1 (by simp), selim, e0, List.nil_append]
  rw [loopM_eq]
  simp only [show decide ((1 : Int) < 4) = true from rfl, cond_true, h2, Option.bind_some, ga [x1] x2 (by simp), selim, e1, List.cons_append, List.nil_append]
  rw [loopM_eq]
  simp only [show decide ((2 : Int) < 4) = true from rfl, cond_true, h3, Option.bind_some, ga [x1, x2] x3 (by simp), selim, e2, List.cons_append, List.nil_append]
  rw [loopM_eq]
  simp only [show decide ((3 : Int) < 4) = true from rfl, cond_true, h4, Option.bind_some, ga [x1, x2, x3] x4 (by simp), selim, e3, List.cons_append, List.nil_append]
  rw [loopM_eq]
  simp only [show decide ((4 : Int) < 4) = false from rfl, cond_false, Option.bind_some, selim]
end Go.Vs
namespace Go.Vs
def Near (v : List Int) : Prop := v.length ≤ 5 ∧ ∀ x ∈ v, -101 ≤ x ∧ x ≤ 101
theorem near_of {v : List Int} (h : isVec v = true) : Near v := by
  obtain ⟨h1, h2⟩ := isVec_iff.1 h
  exact ⟨by omega, fun x hx => by have := h2 x hx; omega⟩
theorem copy_ok {v : List Int} (h : v.length ≤ 1000000) : M.spec_copyInts v = some v := by
  unfold M.spec_copyInts
  rw [gapp_ok (by simp; omega)]; rfl
theorem spoil_ok {k : Nat} (hk : k ≤ 700000) {r : List UInt8 × Int} (hr : Good k r) {v : List Int} (hv : isVec v = true) :
    ∃ u r', M.spec_reader_spoil r v 101 = some (u, r') ∧ Good (k + 3) r' ∧ Near u := by
  obtain ⟨hl, hb⟩ := isVec_iff.1 hv
  obtain ⟨x1, r1, h1, g1, a1, b1, _⟩ := pick_ok (by omega) hr 20
  unfold M.spec_reader_spoil
  simp only [copy_ok (v := v) (by omega), Option.bind_some, h1]
  by_cases c0 : x1 = 0
  · refine ⟨v ++ [101], r1, ?_, g1.mono (by omega), ?_⟩
    · simp [c0, gapp_ok (xs := v) (ys := [101]) (by simp; omega)]
    · refine ⟨by simp; omega, fun x hx => ?_⟩
      rcases List.mem_append.1 hx with h | h
      · have := hb x h; omega
      · simp at h; omega
  · have e0 : (x1 == 0) = false := by simpa using c0
    simp only [e0, cond_false]
    have hpos : decide (0 < (v.length : Int)) = true := by simp; omega
    have hp' : 0 < v.length := by omega
    by_cases c1 : x1 = 1
    · refine ⟨v.drop 1, r1, ?_, g1.mono (by omega), by simp; omega, fun x hx => ?_⟩
      · have : gslice v 1 (v.length : Int) = some (v.drop 1) := by
          rw [gslice_ok (by omega) (by omega) (by omega)]; simp
        simp [c1, hp', this]
      · have := hb x (List.mem_of_mem_drop hx); omega
    · have e1 : (x1 == 1) = false := by simpa using c1
      simp only [e1, cond_false]
      by_cases c2 : x1 = 2
      · obtain ⟨i, r2, h2, g2, a2, b2, _⟩ := pick_ok (by omega) g1 (v.length : Int)
        obtain ⟨y, r3, h3, g3, m3⟩ := one_ok (by omega) g2 (list := [-1, 101, 0, 1]) (by simp)
        have b2 := b2 (by omega)
        obtain ⟨z, hz, _⟩ := gidx_lt' (xs := v) a2 b2
        refine ⟨v.set i.toNat y, r3, ?_, g3, by simp; omega, fun x hx => ?_⟩
        · simp [c2, hp', h2, h3, hz]
        · rcases List.mem_or_eq_of_mem_set hx with h | h
          · have := hb x h; omega
          · subst h
            simp only [List.mem_cons, List.not_mem_nil, or_false] at m3
            omega
      · have e2 : (x1 == 2) = false := by simpa using c2
        exact ⟨v, r1, by simp [e2], g1.mono (by omega), near_of hv⟩
theorem any_ok {k : Nat} (hk : k ≤ 600000) {r : List UInt8 × Int} (hr : Good k r) :
    ∃ v r', M.spec_anyVector r = some (v, r') ∧ Good (k + 16) r' ∧ Near v := by
  obtain ⟨x1, r1, h1, g1, a1, b1, _⟩ := pick_ok (by omega) hr 10
  obtain ⟨v, r2, h2, g2, hv⟩ := vector_ok (by omega) g1
  unfold M.spec_anyVector
  simp only [h1, Option.bind_some]
  by_cases c0 : x1 = 0
  · obtain ⟨u, r3, h3, g3, hu⟩ := spoil_ok (by omega) g2 hv
    exact ⟨u, r3, by simp [c0, h2, h3], g3, hu⟩
  · have e0 : (x1 == 0) = false := by simpa using c0
    exact ⟨v, r2, by simp [e0, h2], g2.mono (by omega), near_of hv⟩
theorem newReader_ok (code : List UInt8) : ∃ r, M.spec_newReader code = some r ∧ Good 0 r := by
  unfold M.spec_newReader
  by_cases h : 2000 < (code.length : Int)
  · refine ⟨(code.take 2000, 0), ?_, by simp; omega, by simp, by simp⟩
    have : gslice code 0 2000 = some (code.take 2000) := by
      rw [gslice_ok (by omega) (by omega) (by omega)]; simp
    simp [h, this]
  · exact ⟨(code, 0), by simp [h], by simp only; omega, by simp, by simp⟩

theorem implCoords_ok (v : List Int) (hb : v.length < 2000000) : M.impl_validCoords v = some (v.all fun x => decide (-100 ≤ x) && decide (x ≤ 100)) := by
  unfold M.impl_validCoords
  rw [loop_all (xs := v) (P := fun x => decide (-100 ≤ x) && decide (x ≤ 100)) (r := false)]
  · by_cases ha : (v.all fun x => decide (-100 ≤ x) && decide (x ≤ 100)) = true
    · simp only [ha, if_true, Option.bind_some, selim]
    · simp only [Bool.not_eq_true] at ha
      simp only [ha]; simp [selim]
  · intro i h
    have e1 : decide ((i : Int) < (v.length : Int)) = true := by simpa using h
    have e2 : w64 ((i : Int) + 1) = (i : Int) + 1 := w64_id (by omega) (by omega)
    simp only [e1, cond_true, gidx_nat h, Option.bind_some, e2]
    by_cases c1 : v[i] < -100
    · have c2 : ¬ (-100 ≤ v[i]) := by omega
      simp [c1, c2]
    · by_cases c3 : 100 < v[i]
      · have c4 : ¬ (v[i] ≤ 100) := by omega
        simp [c1, c3, c4]
      · simp [c1, c3, show -100 ≤ v[i] by omega, show v[i] ≤ 100 by omega]
  · simp
theorem impl_valid (v : List Int) (hb : v.length < 2000000) : M.impl_ValidVector v = some (isVec v) := by
  unfold M.impl_ValidVector
  simp only [implCoords_ok v hb, Option.bind_some]
  unfold isVec
  by_cases hl : v.length = 4
  · have e : ((v.length : Int) == 4) = true := by simp; omega
    rw [e, cond_true, decide_eq_true hl, Bool.true_and]
  · have e : ((v.length : Int) == 4) = false := by simp; omega
    rw [e, cond_false, decide_eq_false hl, Bool.false_and]
theorem spec_inR (n l h : Int) : M.spec_inRange n l h = some (decide (l ≤ n) && decide (n ≤ h)) := by
  unfold M.spec_inRange
  by_cases h1 : l ≤ n <;> simp [h1]
theorem spec_all (v : List Int) (l h : Int) (hb : v.length < 2000000) : M.spec_allIn v l h = some (v.all fun x => decide (l ≤ x) && decide (x ≤ h)) := by
  unfold M.spec_allIn
  rw [loop_all (xs := v) (P := fun x => decide (l ≤ x) && decide (x ≤ h)) (r := false)]
  · by_cases ha : (v.all fun x => decide (l ≤ x) && decide (x ≤ h)) = true
    · simp only [ha, if_true, Option.bind_some, selim]
    · simp only [Bool.not_eq_true] at ha
      simp [ha, selim]
  · intro i hi
    have e1 : decide ((i : Int) < (v.length : Int)) = true := by simpa using hi
    have e2 : w64 ((i : Int) + 1) = (i : Int) + 1 := w64_id (by omega) (by omega)
    simp only [e1, cond_true, gidx_nat hi, Option.bind_some, e2, spec_inR]
    cases (decide (l ≤ v[i]) && decide (v[i] ≤ h)) <;> rfl
  · simp
theorem spec_isVec (v : List Int) (hb : v.length < 2000000) : M.spec_isVector v = some (isVec v) := by
  unfold M.spec_isVector
  by_cases hl : v.length = 4
  · have e : ((v.length : Int) == 4) = true := by simp; omega
    simp [e, spec_all v _ _ hb, isVec, hl]
  · have e : ((v.length : Int) == 4) = false := by simp; omega
    simp [e, isVec, hl]
end Go.Vs

namespace Go.Vs

end Go.Vs

namespace Go.Vs

def gap (x y : Int) : Int := max (x - y) (y - x)
def dk (k g0 g1 g2 g3 : Int) : Int :=
  if k = 1 then g0 + g1 + g2 + g3 else if k = 2 then max (max (max (max 0 g0) g1) g2) g3 else if k = 3 then g0 * g0 + g1 * g1 + g2 * g2 + g3 * g3 else if k = 4 then min g0 1 + min g1 1 + min g2 1 + min g3 1 else -1

end Go.Vs

namespace Go.Vs

def dist (k : Int) (a b : List Int) : Int :=
  if isVec a = true ∧ isVec b = true then dk k (gap (a.getD 0 0) (b.getD 0 0)) (gap (a.getD 1 0) (b.getD 1 0)) (gap (a.getD 2 0) (b.getD 2 0)) (gap (a.getD 3 0) (b.getD 3 0)) else -1
theorem equalInts_ok {a b : List Int} (ha : a.length < 2000000) : M.laws_equalInts a b = some (decide (a = b)) := by
  unfold M.laws_equalInts
  by_cases hl : a.length = b.length
  · have e : ((a.length : Int) != (b.length : Int)) = false := by simp; omega
    simp only [e, cond_false]
    rw [loop_all (xs := a.zip b) (P := fun p => p.1 == p.2) (r := false)]
    · by_cases h : a = b
      · subst h
        have : (a.zip a).all (fun p => p.1 == p.2) = true := by
          rw [List.all_eq_true]; intro p hp
          obtain ⟨i, hi, rfl⟩ := List.mem_iff_getElem.1 hp
          simp
        rw [if_pos this]; simp [selim]
      · have : ¬ (a.zip b).all (fun p => p.1 == p.2) = true := by
          intro hh; apply h
          apply List.ext_getElem hl
          intro i h1 h2
          rw [List.all_eq_true] at hh
          have := hh (a[i], b[i]) (List.mem_iff_getElem.2 ⟨i, by simp; omega, by simp⟩)
          simpa using this
        rw [if_neg this]; simp [selim, h]
    · intro i hi
      have hi1 : i < a.length := by simp at hi; omega
      have hi2 : i < b.length := by simp at hi; omega
      have e1 : decide ((i : Int) < (a.length : Int)) = true := by simpa using hi1
      have e2 : w64 ((i : Int) + 1) = (i : Int) + 1 := w64_id (by omega) (by omega)
      simp only [e1, cond_true, gidx_nat hi1, gidx_nat hi2, Option.bind_some, e2, List.getElem_zip]
      by_cases hc : a[i] = b[i]
      · simp [hc]
      · have hb : (a[i] == b[i]) = false := by simpa using hc
        have hb' : (a[i] != b[i]) = true := by simpa using hc
        simp [hb, hb']
    · have : (a.zip b).length = a.length := by simp; omega
      rw [this]; simp
  · have e : ((a.length : Int) != (b.length : Int)) = true := by simp; omega
    have : a ≠ b := fun h => hl (by rw [h])
    simp [e, this]

structure Gaps (g0 g1 g2 g3 : Int) : Prop where
  n0 : 0 ≤ g0
  n1 : 0 ≤ g1
  n2 : 0 ≤ g2
  n3 : 0 ≤ g3
  m0 : g0 ≤ 200
  m1 : g1 ≤ 200
  m2 : g2 ≤ 200
  m3 : g3 ≤ 200
end Go.Vs

namespace Go.Vs

end Go.Vs

namespace Go.Vs

end Go.Vs

namespace Go.Vs

end Go.Vs

namespace Go.Vs

end Go.Vs

namespace Go.Vs

end Go.Vs

namespace Go.Vs

end Go.Vs

namespace Go.Vs

abbrev Item := Int × (List Int) × Int
def isItem (x : Item) : Bool := (decide (1 ≤ x.1) && decide (x.1 ≤ 99)) && (isVec x.2.1 && (decide (0 ≤ x.2.2) && decide (x.2.2 ≤ 15)))
def okFrom : Int → List Item → Bool
  | _, [] => true
  | p, x :: l => (isItem x && decide (p < x.1)) && okFrom x.1 l
def okStore (l : List Item) : Bool := decide (l.length ≤ 16) && okFrom 0 l

theorem implItem_ok {x : Item} (h : x.2.1.length < 2000000) : M.impl_validItem (x.1, x.2.1, x.2.2) = some (isItem x) := by
  unfold M.impl_validItem M.impl_validKey M.impl_validTags isItem
  simp only [impl_valid x.2.1 h, Option.bind_some]
  by_cases h1 : 1 ≤ x.1
  · by_cases h2 : x.1 ≤ 99
    · by_cases h3 : isVec x.2.1 = true
      · by_cases h4 : 0 ≤ x.2.2
        · simp [h1, h2, h3, h4]
        · simp [h1, h2, h3, h4]
      · simp only [Bool.not_eq_true] at h3
        simp [h1, h2, h3]
    · simp [h1, h2]
  · simp [h1]
theorem specItem_ok {x : Item} (h : x.2.1.length < 2000000) : M.spec_validItem (x.1, x.2.1, x.2.2) = some (isItem x) := by
  unfold M.spec_validItem isItem
  simp only [spec_inR, spec_isVec x.2.1 h, Option.bind_some]
  cases (decide (1 ≤ x.1) && decide (x.1 ≤ 99)) <;> cases isVec x.2.1 <;> simp

theorem implStore_ok {l : List Item} (hb : ∀ x ∈ l, x.2.1.length < 2000000) : M.impl_ValidStore l = some (okStore l) := by
  unfold M.impl_ValidStore okStore
  by_cases hl : 16 < (l.length : Int)
  · have : ¬ l.length ≤ 16 := by omega
    simp [hl, this]
  have hl' : l.length ≤ 16 := by omega
  simp only [hl, decide_false, cond_false, hl', decide_true, Bool.true_and]
  have key : ∀ m k : Nat, ∀ p : Int, k + m = l.length → loopM (fun (s3 : (Int) × (Int)) => (bif decide (s3.2 < (l.length : Int)) then
  (gidx l s3.2).bind fun x8 =>
  Option.bind ((M.impl_validItem (x8.1, x8.2.1, x8.2.2)).bind fun r30 =>
  (bif !r30 then
  some true
 else
  some (decide (x8.1 ≤ s3.1)))) fun o29 =>
  (bif o29 then
  some (.inr (.inr false))
 else
  some (.inl (x8.1, w64 (s3.2 + 1))))
 else
  some (.inr (.inl ())))) (p, (k : Int)) = some (if okFrom p (l.drop k) then (.inl () : Unit ⊕ Bool) else .inr false) := by
    intro m
    induction m with
    | zero =>
      intro k p hk
      have : k = l.length := by omega
      subst this
      rw [loopM_eq]; simp [selim, okFrom]
    | succ m ih =>
      intro k p hk
      have hlt : k < l.length := by omega
      rw [loopM_eq, List.drop_eq_getElem_cons hlt]
      have e1 : decide ((k : Int) < (l.length : Int)) = true := by simpa using hlt
      have e2 : w64 ((k : Int) + 1) = ((k + 1 : Nat) : Int) := w64_id (by omega) (by omega)
      simp only [e1, cond_true, gidx_nat hlt, Option.bind_some, implItem_ok (hb _ (List.getElem_mem hlt)), e2, okFrom]
      by_cases h1 : isItem l[k] = true
      · by_cases h2 : p < l[k].1
        · have h2' : ¬ l[k].1 ≤ p := by omega
          simp only [h1, h2, h2', Bool.not_true, cond_false, Option.bind_some, decide_false, decide_true, Bool.and_self, Bool.true_and, selim]
          exact ih (k + 1) l[k].1 (by omega)
        · have h2' : l[k].1 ≤ p := by omega
          simp [h1, h2, h2', selim]
      · simp only [Bool.not_eq_true] at h1
        simp [h1, selim]
  have := key l.length 0 0 (by omega)
  simp only [Int.cast_ofNat_Int, List.drop_zero] at this
  rw [this]
  cases okFrom 0 l <;> rfl

def keyBefore (l : List Item) : Nat → Int
  | 0 => 0
  | k + 1 => (l.getD k (0, [], 0)).1
theorem specStore_ok {l : List Item} (hb : ∀ x ∈ l, x.2.1.length < 2000000) (hL : l.length < 2000000) : M.spec_validStore l = some (okStore l) := by
  unfold M.spec_validStore okStore
  have key : ∀ m k : Nat, k + m = l.length → loopM (fun (s2 : (Int)) => (bif decide (s2 < (l.length : Int)) then
  Option.bind ((gidx l s2).bind fun x8 =>
  (M.spec_validItem (x8.1, x8.2.1, x8.2.2)).bind fun r19 =>
  (bif !r19 then
  some true
 else
  (bif decide (0 < s2) then
  (gidx l s2).bind fun x24 =>
  (gidx l (w64 (s2 - 1))).bind fun x29 =>
  some (decide (x24.1 ≤ x29.1))
 else
  some false))) fun o7 =>
  (bif o7 then
  some (.inr (.inr false))
 else
  some (.inl (w64 (s2 + 1))))
 else
  some (.inr (.inl ())))) (k : Int) = some (if okFrom (keyBefore l k) (l.drop k) then (.inl () : Unit ⊕ Bool) else .inr false) := by
    intro m
    induction m with
    | zero =>
      intro k hk
      have : k = l.length := by omega
      subst this
      rw [loopM_eq]; simp [selim, okFrom]
    | succ m ih =>
      intro k hk
      have hlt : k < l.length := by omega
      rw [loopM_eq, List.drop_eq_getElem_cons hlt]
      have e1 : decide ((k : Int) < (l.length : Int)) = true := by simpa using hlt
      have e2 : w64 ((k : Int) + 1) = ((k + 1 : Nat) : Int) := w64_id (by omega) (by omega)
      have hnext : keyBefore l (k + 1) = l[k].1 := by simp [keyBefore, List.getD, hlt]
      have ih' := ih (k + 1) (by omega)
      rw [hnext] at ih'
      simp only [e1, cond_true, gidx_nat hlt, Option.bind_some, specItem_ok (hb _ (List.getElem_mem hlt)), e2, okFrom]
      by_cases h1 : isItem l[k] = true
      · simp only [h1, Bool.not_true, cond_false, Bool.true_and]
        match k, hlt with
        | 0, hlt =>
          have hpos : keyBefore l 0 < l[0].1 := by
            have : 1 ≤ l[0].1 := by
              unfold isItem at h1; simp at h1; exact h1.1.1
            show 0 < _; omega
          have e3 : decide ((0 : Int) < ((0 : Nat) : Int)) = false := rfl
          simp only [e3, cond_false, Option.bind_some, hpos, decide_true, Bool.true_and, selim]
          exact ih'
        | j + 1, hlt =>
          have e3 : decide ((0 : Int) < ((j + 1 : Nat) : Int)) = true := by simp
          have e4 : w64 (((j + 1 : Nat) : Int) - 1) = (j : Int) := by rw [w64_id (by omega) (by omega)]; omega
          have hj : j < l.length := by omega
          have hk : keyBefore l (j + 1) = l[j].1 := by simp [keyBefore, List.getD, hj]
          simp only [e3, cond_true, e4, gidx_nat hj, Option.bind_some, hk]
          by_cases h2 : l[j].1 < l[j + 1].1
          · have h2' : ¬ l[j + 1].1 ≤ l[j].1 := by omega
            simp only [h2, h2', decide_false, decide_true, cond_false, Bool.true_and, selim, Option.bind_some]
            exact ih'
          · have h2' : l[j + 1].1 ≤ l[j].1 := by omega
            simp [h2, h2', selim]
      · simp only [Bool.not_eq_true] at h1
        simp [h1, selim]
  have := key l.length 0 (by omega)
  simp only [Int.cast_ofNat_Int, List.drop_zero] at this
  rw [this]
  show _ = some (decide (l.length ≤ 16) && okFrom 0 l)
  have e : keyBefore l 0 = 0 := rfl
  rw [e]
  by_cases h16 : l.length ≤ 16
  · have : decide ((l.length : Int) ≤ 16) = true := by simp; omega
    cases okFrom 0 l <;> simp [selim, this, h16]
  · have : decide ((l.length : Int) ≤ 16) = false := by simp; omega
    cases okFrom 0 l <;> simp [selim, this, h16]
end Go.Vs

namespace Go.Vs

theorem copy_loop {α : Type} {a : List α} {z : α} {g : α → Option α} (ha : a.length ≤ 1048576) (hg : ∀ x ∈ a, g x = some x) {f : List α × Int → Option ((List α × Int) ⊕ List α)}
    (hs : ∀ (s : List α) (i : Nat) (h : i < a.length) (h' : i < s.length), g a[i] = some a[i] → f (s, (i : Int)) = some (.inl (s.set i a[i], ((i + 1 : Nat) : Int)))) (he : ∀ s, f (s, (a.length : Int)) = some (.inr s)) :
    loopM f (List.replicate a.length z, 0) = some a := by
  have hloop := loop_run (R := List α) (f := f) (r := a) a.length (fun i => (a.take i ++ List.replicate (a.length - i) z, (i : Int))) (by
    intro i hi
    have hl : i < (a.take i ++ List.replicate (a.length - i) z).length := by simp; omega
    rw [hs _ i hi hl (hg _ (List.getElem_mem hi))]
    have hr : List.replicate (a.length - i) z = z :: List.replicate (a.length - (i + 1)) z := by
      rw [show a.length - i = (a.length - (i + 1)) + 1 by omega, List.replicate_succ]
    rw [List.take_succ_eq_append_getElem hi, hr, List.set_append_right _ _ (by simp; omega)]
    have : i - (a.take i).length = 0 := by simp; omega
    rw [this]; simp only [List.set_cons_zero, List.append_assoc, List.cons_append, List.nil_append]) (by
    rw [he]; simp)
  simpa using hloop
end Go.Vs

namespace Go.Vs

theorem w64_succ {i : Nat} (h : i < 4000000000000000000) : w64 ((i : Int) + 1) = ((i + 1 : Nat) : Int) := w64_id (by omega) (by omega)

section
variable {α S T R U : Type} {xs : List α}
theorem loop_fold (st : S → Int → T) (g : S → α → S) (Inv : Nat → S → Prop) {fin : S → R} {f : T → Option (T ⊕ R)} {s0 : S} (h0 : Inv 0 s0)
    (hs : ∀ s i (h : i < xs.length), Inv i s → f (st s (i : Int)) = some (.inl (st (g s xs[i]) ((i + 1 : Nat) : Int))) ∧ Inv (i + 1) (g s xs[i]))
    (he : ∀ s, Inv xs.length s → f (st s (xs.length : Int)) = some (.inr (fin s))) :
    loopM f (st s0 0) = some (fin (xs.foldl g s0)) ∧ Inv xs.length (xs.foldl g s0) := by
  have key : ∀ m k : Nat, ∀ s, k + m = xs.length → Inv k s → loopM f (st s (k : Int)) = some (fin ((xs.drop k).foldl g s)) ∧ Inv xs.length ((xs.drop k).foldl g s) := by
    intro m
    induction m with
    | zero =>
      intro k s hk hi
      have : k = xs.length := by omega
      subst this
      rw [loopM_eq, he s hi]; simpa [selim] using hi
    | succ m ih =>
      intro k s hk hi
      have hlt : k < xs.length := by omega
      obtain ⟨h1, h2⟩ := hs s k hlt hi
      rw [loopM_eq, h1, List.drop_eq_getElem_cons hlt]
      exact ih (k + 1) _ (by omega) h2
  have := key xs.length 0 s0 (by omega) h0
  simpa using this
theorem fold_bind (st : S → Int → T) (g : S → α → S) (Inv : Nat → S → Prop) (fin : S → R) {f : T → Option (T ⊕ R)} {s0 : S} {k : R → Option U} {r : Option U} (h0 : Inv 0 s0)
    (hs : ∀ s i (h : i < xs.length), Inv i s → f (st s (i : Int)) = some (.inl (st (g s xs[i]) ((i + 1 : Nat) : Int))) ∧ Inv (i + 1) (g s xs[i]))
    (he : ∀ s, Inv xs.length s → f (st s (xs.length : Int)) = some (.inr (fin s)))
    (hk : Inv xs.length (xs.foldl g s0) → k (fin (xs.foldl g s0)) = r) : (loopM f (st s0 0)).bind k = r := by
  obtain ⟨h1, h2⟩ := loop_fold st g Inv (fin := fin) h0 hs he
  rw [h1]; exact hk h2
theorem loop_to {f : T → Option (T ⊕ R)} (J : T → Prop) (μ : T → Nat) {r : R} (step : ∀ s, J s → (∃ s', f s = some (.inl s') ∧ J s' ∧ μ s' < μ s) ∨ f s = some (.inr r)) {s : T} (h : J s) : loopM f s = some r := by
  obtain ⟨r', h1, rfl⟩ := loopM_ind (f := f) J μ (fun x => x = r) (fun s hs => (step s hs).imp id (fun h => ⟨r, h, rfl⟩)) s h
  exact h1
theorem loop_first (p : α → Bool) (r : Nat → R) {f : Int → Option (Int ⊕ (Unit ⊕ R))}
    (hs : ∀ i (h : i < xs.length), f (i : Int) = some (if p xs[i] = true then .inr (.inr (r i)) else .inl ((i + 1 : Nat) : Int))) (he : f (xs.length : Int) = some (.inr (.inl ()))) :
    loopM f 0 = some (match xs.findIdx? p with | some i => .inr (r i) | none => .inl ()) := by
  have key : ∀ m k : Nat, k + m = xs.length → loopM f (k : Int) = some (match (xs.drop k).findIdx? p with | some i => .inr (r (k + i)) | none => .inl ()) := by
    intro m
    induction m with
    | zero =>
      intro k hk
      have : k = xs.length := by omega
      subst this
      rw [loopM_eq, he]; simp [selim]
    | succ m ih =>
      intro k hk
      have hlt : k < xs.length := by omega
      rw [loopM_eq, hs k hlt, List.drop_eq_getElem_cons hlt, List.findIdx?_cons]
      by_cases hp : p xs[k] = true
      · simp [hp, selim]
      · simp only [hp, if_false, selim, Option.bind_some, Bool.false_eq_true]
        rw [ih (k + 1) (by omega)]
        cases h : List.findIdx? p (List.drop (k + 1) xs) with
        | none => rfl
        | some i => simp only [Option.map_some]; rw [show k + 1 + i = k + (i + 1) by omega]
  have := key xs.length 0 (by omega)
  simpa using this
end

theorem foldl_filter {α : Type} (p : α → Bool) (l : List α) : ∀ s : List α, l.foldl (fun s x => if p x = true then s ++ [x] else s) s = s ++ l.filter p := by
  induction l with
  | nil => intro s; simp
  | cons x l ih =>
    intro s
    rw [List.foldl_cons, ih, List.filter_cons]
    by_cases h : p x = true <;> simp [h]
theorem foldl_map {α β : Type} (g : α → β) (l : List α) : ∀ s : List β, l.foldl (fun s x => s ++ [g x]) s = s ++ l.map g := by
  induction l with
  | nil => intro s; simp
  | cons x l ih => intro s; rw [List.foldl_cons, ih]; simp

/-! ## Valid stores as lists that ascend -/
theorem okFrom_iff {l : List Item} : ∀ {p : Int}, okFrom p l = true ↔ (∀ x ∈ l, isItem x = true ∧ p < x.1) ∧ l.Pairwise (fun x y => x.1 < y.1) := by
  induction l with
  | nil => intro p; simp [okFrom]
  | cons x l ih =>
    intro p
    simp only [okFrom, Bool.and_eq_true, decide_eq_true_eq, ih, List.pairwise_cons, List.mem_cons, forall_eq_or_imp]
    constructor
    · rintro ⟨⟨h1, h2⟩, h3, h4⟩
      exact ⟨⟨⟨h1, h2⟩, fun y hy => ⟨(h3 y hy).1, by have := (h3 y hy).2; omega⟩⟩, fun y hy => (h3 y hy).2, h4⟩
    · rintro ⟨⟨⟨h1, h2⟩, h3⟩, h4, h5⟩
      exact ⟨⟨h1, h2⟩, fun y hy => ⟨(h3 y hy).1, h4 y hy⟩, h5⟩
theorem isItem_iff {x : Item} : isItem x = true ↔ (1 ≤ x.1 ∧ x.1 ≤ 99) ∧ isVec x.2.1 = true ∧ 0 ≤ x.2.2 ∧ x.2.2 ≤ 15 := by
  unfold isItem; simp only [Bool.and_eq_true, decide_eq_true_eq]
theorem okStore_iff {l : List Item} : okStore l = true ↔ l.length ≤ 16 ∧ (∀ x ∈ l, isItem x = true) ∧ l.Pairwise (fun x y => x.1 < y.1) := by
  unfold okStore
  simp only [Bool.and_eq_true, decide_eq_true_eq, okFrom_iff]
  constructor
  · rintro ⟨h1, h2, h3⟩; exact ⟨h1, fun x hx => (h2 x hx).1, h3⟩
  · rintro ⟨h1, h2, h3⟩; exact ⟨h1, fun x hx => ⟨h2 x hx, by have := (isItem_iff.1 (h2 x hx)).1.1; omega⟩, h3⟩
theorem okStore_sub {l m : List Item} (h : okStore l = true) (hs : m.Sublist l) : okStore m = true := by
  obtain ⟨h1, h2, h3⟩ := okStore_iff.1 h
  exact okStore_iff.2 ⟨Nat.le_trans hs.length_le h1, fun x hx => h2 x (hs.subset hx), h3.sublist hs⟩
theorem isItem_len {x : Item} (h : isItem x = true) : x.2.1.length = 4 := (isVec_iff.1 (isItem_iff.1 h).2.1).1

def SmallS (l : List Item) : Prop := l.length ≤ 1048576 ∧ ∀ x ∈ l, x.2.1.length ≤ 1048576
theorem SmallS.hb {l : List Item} (h : SmallS l) : ∀ x ∈ l, x.2.1.length < 2000000 := fun x hx => by have := h.2 x hx; omega
theorem SmallS.hL {l : List Item} (h : SmallS l) : l.length < 2000000 := by have := h.1; omega
theorem okStore_small {l : List Item} (h : okStore l = true) : SmallS l := by
  obtain ⟨h1, h2, h3⟩ := okStore_iff.1 h
  exact ⟨by omega, fun x hx => by have := isItem_len (h2 x hx); omega⟩
theorem SmallS.impl {l : List Item} (h : SmallS l) : M.impl_ValidStore l = some (okStore l) := implStore_ok h.hb
theorem SmallS.specv {l : List Item} (h : SmallS l) : M.spec_validStore l = some (okStore l) := specStore_ok h.hb h.hL
/-! ## Putting -/
def putS (l : List Item) (x : Item) : List Item := l.filter (fun y => decide (y.1 < x.1)) ++ x :: l.filter (fun y => decide (x.1 < y.1))
theorem copyItem_spec {x : Item} (h : x.2.1.length ≤ 1000000) : M.spec_copyItem (x.1, x.2.1, x.2.2) = some x := by
  unfold M.spec_copyItem; simp only [copy_ok h, Option.bind_some]
theorem specPut_ok {l : List Item} {x : Item} (hl : l.length ≤ 1000) (hx : ∀ y ∈ l, y.2.1.length ≤ 1000000) (hxx : x.2.1.length ≤ 1000000) : M.spec_put l (x.1, x.2.1, x.2.2) = some (putS l x) := by
  unfold M.spec_put
  simp only []
  refine fold_bind (xs := l) (fun s i => (s, i)) (fun s y => if (decide (y.1 < x.1)) = true then s ++ [y] else s) (fun i s => s.length ≤ i) (fun s => s) (by simp) ?_ ?_ ?_
  · intro s i h hs
    have e1 : decide ((i : Int) < (l.length : Int)) = true := by simpa using h
    simp only [e1, cond_true, gidx_nat h, Option.bind_some, w64_succ (i := i) (by omega)]
    by_cases hk : l[i].1 < x.1
    · simp only [hk, decide_true, cond_true, copyItem_spec (hx _ (List.getElem_mem h)), Option.bind_some, if_true]
      rw [gapp_ok (by simp; omega)]
      exact ⟨by first | rfl | trivial, by simp; omega⟩
    · simp only [hk, decide_false, cond_false, Option.bind_some, if_false, Bool.false_eq_true]
      exact ⟨by first | rfl | trivial, by omega⟩
  · intro s _; simp
  · intro hs
    rw [foldl_filter] at hs ⊢
    simp only [List.nil_append] at hs ⊢
    simp only [copyItem_spec hxx, Option.bind_some]
    rw [gapp_ok (by simp; omega)]
    simp only [Option.bind_some]
    refine fold_bind (xs := l) (fun s i => (s, i)) (fun s y => if (decide (x.1 < y.1)) = true then s ++ [y] else s) (fun i s => s.length ≤ 1001 + i) (fun s => s) (by simp; omega) ?_ ?_ ?_
    · intro s i h hs
      have e1 : decide ((i : Int) < (l.length : Int)) = true := by simpa using h
      simp only [e1, cond_true, gidx_nat h, Option.bind_some, w64_succ (i := i) (by omega)]
      by_cases hk : x.1 < l[i].1
      · simp only [hk, decide_true, cond_true, copyItem_spec (hx _ (List.getElem_mem h)), Option.bind_some, if_true]
        rw [gapp_ok (by simp; omega)]
        exact ⟨by first | rfl | trivial, by simp; omega⟩
      · simp only [hk, decide_false, cond_false, Option.bind_some, if_false, Bool.false_eq_true]
        exact ⟨by first | rfl | trivial, by omega⟩
    · intro s _; simp
    · intro _
      rw [foldl_filter]; simp [putS]
theorem putS_len {l : List Item} {x : Item} (h : l.Pairwise (fun x y => x.1 < y.1)) : (putS l x).length ≤ l.length + 1 := by
  unfold putS
  simp only [List.length_append, List.length_cons]
  have : ∀ l : List Item, (l.filter (fun y => decide (y.1 < x.1))).length + (l.filter (fun y => decide (x.1 < y.1))).length ≤ l.length := by
    intro l
    induction l with
    | nil => simp
    | cons y l ih =>
      rw [List.filter_cons, List.filter_cons]
      by_cases h1 : y.1 < x.1
      · have h2 : ¬ x.1 < y.1 := by omega
        simp [h1, h2]; omega
      · by_cases h2 : x.1 < y.1
        · simp [h1, h2]; omega
        · simp [h1, h2]; omega
  have := this l; omega
theorem putS_ok {l : List Item} {x : Item} (h : okStore l = true) (hx : isItem x = true) : (∀ y ∈ putS l x, isItem y = true) ∧ (putS l x).Pairwise (fun x y => x.1 < y.1) := by
  obtain ⟨_, h2, h3⟩ := okStore_iff.1 h
  unfold putS
  refine ⟨?_, ?_⟩
  · intro y hy
    simp only [List.mem_append, List.mem_cons, List.mem_filter] at hy
    rcases hy with hy | rfl | hy
    · exact h2 y hy.1
    · exact hx
    · exact h2 y hy.1
  · rw [List.pairwise_append, List.pairwise_cons]
    refine ⟨h3.sublist List.filter_sublist, ⟨fun y hy => ?_, h3.sublist List.filter_sublist⟩, fun y hy z hz => ?_⟩
    · simpa using (List.mem_filter.1 hy).2
    · have h4 : y.1 < x.1 := by simpa using (List.mem_filter.1 hy).2
      rcases List.mem_cons.1 hz with rfl | hz
      · exact h4
      · have : x.1 < z.1 := by simpa using (List.mem_filter.1 hz).2
        omega
theorem putS_okStore {l : List Item} {x : Item} (h : okStore l = true) (hx : isItem x = true) : okStore (putS l x) = decide ((putS l x).length ≤ 16) := by
  obtain ⟨h1, h2⟩ := putS_ok h hx
  rw [Bool.eq_iff_iff, okStore_iff, decide_eq_true_eq]; exact ⟨fun h => h.1, fun h => ⟨h, h1, h2⟩⟩
def putItem (l : List Item) (x : Item) : List Item × Bool := if okStore l = true ∧ isItem x = true ∧ (putS l x).length ≤ 16 then (putS l x, true) else ([], false)
theorem specPutItem_ok {l : List Item} {x : Item} (h : SmallS l) (hx : x.2.1.length ≤ 1000000) : M.spec_PutItem l (x.1, x.2.1, x.2.2) = some (putItem l x) := by
  unfold M.spec_PutItem putItem
  simp only [h.specv, specItem_ok (x := x) (by omega), Option.bind_some]
  cases h1 : okStore l with
  | false => simp
  | true =>
    cases h2 : isItem x with
    | false => simp
    | true =>
      obtain ⟨hl, hi, hp⟩ := okStore_iff.1 h1
      simp only [Bool.not_true, cond_false, Option.bind_some]
      rw [specPut_ok (by omega) (fun y hy => by have := isItem_len (hi y hy); omega) hx]
      have hs := putS_ok h1 h2
      have hn := putS_len (x := x) hp
      simp only [Option.bind_some, specStore_ok (l := putS l x) (fun y hy => by have := isItem_len (hs.1 y hy); omega) (by omega), putS_okStore h1 h2]
      by_cases h16 : (putS l x).length ≤ 16 <;> simp [h16]

/-! ## Draws -/
theorem item_ok {k : Nat} (hk : k ≤ 700000) {r : List UInt8 × Int} (hr : Good k r) :
    ∃ x r', M.spec_someItem (r.1, r.2) = some (x, (r'.1, r'.2)) ∧ Good (k + 14) r' ∧ isItem x = true ∧ x.1 ≤ 30 := by
  obtain ⟨x1, r1, h1, g1, a1, b1, _⟩ := pick_ok (by omega) hr 30
  obtain ⟨v, r2, h2, g2, hv⟩ := vector_ok (by omega) g1
  obtain ⟨x3, r3, h3, g3, a3, b3, _⟩ := pick_ok (by omega) g2 16
  have b1 := b1 (by omega)
  have b3 := b3 (by omega)
  refine ⟨(1 + x1, v, x3), r3, ?_, g3.mono (by omega), isItem_iff.2 ⟨⟨by simp only; omega, by simp only; omega⟩, hv, by simp only; omega, by simp only; omega⟩, by simp only; omega⟩
  unfold M.spec_someItem
  simp only [h1, h2, h3, Option.bind_some, w64_id (n := 1 + x1) (by omega) (by omega)]

def NearI (x : Item) : Prop := (0 ≤ x.1 ∧ x.1 ≤ 100) ∧ Near x.2.1 ∧ -1 ≤ x.2.2 ∧ x.2.2 ≤ 16
theorem nearI_of {x : Item} (h : isItem x = true) : NearI x := by
  obtain ⟨h1, h2, h3⟩ := isItem_iff.1 h
  exact ⟨by omega, near_of h2, by omega⟩
theorem anyItem_ok {k : Nat} (hk : k ≤ 500000) {r : List UInt8 × Int} (hr : Good k r) :
    ∃ x r', M.spec_anyItem (r.1, r.2) = some (x, (r'.1, r'.2)) ∧ Good (k + 40) r' ∧ NearI x := by
  obtain ⟨x, r1, h1, g1, hx, _⟩ := item_ok (by omega) hr
  obtain ⟨c, r2, h2, g2, _, _, _⟩ := pick_ok (by omega) g1 16
  obtain ⟨hk1, hv, ht⟩ := isItem_iff.1 hx
  unfold M.spec_anyItem
  simp only [h1, h2, Option.bind_some]
  by_cases c0 : c = 0
  · obtain ⟨y, r3, h3, g3, m3⟩ := one_ok (by omega) g2 (list := [0, 99, 100]) (by simp)
    refine ⟨(y, x.2.1, x.2.2), r3, by simp [c0, h3], g3.mono (by omega), ⟨?_, near_of hv, by simp only; omega⟩⟩
    simp only [List.mem_cons, List.not_mem_nil, or_false] at m3; simp only; omega
  · have e0 : (c == 0) = false := by simpa using c0
    simp only [e0, cond_false]
    by_cases c1 : c = 1
    · obtain ⟨v, r3, h3, g3, n3⟩ := any_ok (by omega) g2
      exact ⟨(x.1, v, x.2.2), r3, by simp [c1, h3], g3.mono (by omega), ⟨by simp only; omega, n3, by simp only; omega⟩⟩
    · have e1 : (c == 1) = false := by simpa using c1
      simp only [e1, cond_false]
      by_cases c2 : c = 2
      · obtain ⟨y, r3, h3, g3, m3⟩ := one_ok (by omega) g2 (list := [-1, 16]) (by simp)
        refine ⟨(x.1, x.2.1, y), r3, by simp [c2, h3], g3.mono (by omega), ⟨by simp only; omega, near_of hv, ?_⟩⟩
        simp only [List.mem_cons, List.not_mem_nil, or_false] at m3; simp only; omega
      · have e2 : (c == 2) = false := by simpa using c2
        exact ⟨x, r2, by simp [e2], g2.mono (by omega), nearI_of hx⟩

theorem okStore_nil : okStore [] = true := rfl
def NearS (l : List Item) : Prop := l.length ≤ 17 ∧ ∀ x ∈ l, NearI x
theorem NearS.small {l : List Item} (h : NearS l) : SmallS l := ⟨by have := h.1; omega, fun x hx => by have := (h.2 x hx).2.1.1; omega⟩
theorem nearS_of {l : List Item} (h : okStore l = true) : NearS l := by
  obtain ⟨h1, h2, _⟩ := okStore_iff.1 h
  exact ⟨by omega, fun x hx => nearI_of (h2 x hx)⟩
end Go.Vs

namespace Go.Vs

theorem wk_i64 (n : Int) : wk .i64 n = w64 n := rfl
theorem wk_u64 {n : Int} (h0 : 0 ≤ n) (h : n < 18446744073709551616) : wk .u64 n = n := by
  simp only [wk, Go.IntKind.wrap, Go.IntKind.bits, Go.IntKind.signed, Bool.false_and]
  have e1 : ((2 : Int) ^ (64 : Nat)) = 18446744073709551616 := by decide
  rw [e1]
  simp; omega
theorem mid_ok {i j : Nat} (hi : i ≤ j) (hj : j < 1000000000) : wk .i64 (gshr .u64 (wk .u64 (w64 ((i : Int) + (j : Int)))) 1) = (((i + j) / 2 : Nat) : Int) := by
  rw [w64_id (by omega) (by omega), wk_u64 (by omega) (by omega), wk_i64]
  have : gshr .u64 ((i : Int) + (j : Int)) 1 = ((i + j) / 2 : Nat) := by
    unfold gshr
    have e : (2 : Int) ^ (min (1 : Int).toNat (Go.IntKind.bits .u64)) = 2 := by decide
    rw [e, Int.fdiv_eq_ediv_of_nonneg _ (by omega)]
    omega
  rw [this, w64_nat (by omega)]
def cmpI (x y : Int) : Int := if x < y then -1 else if y < x then 1 else 0
theorem compare_ok (x y : Int) : M.cmp_Compare_int x y = some (cmpI x y) := by
  unfold M.cmp_Compare_int M.cmp_isNaN_int cmpI
  simp only [bne_self_eq_false, Option.bind_some, cond_false]
  by_cases h1 : x < y
  · simp [h1]
  · by_cases h2 : y < x <;> simp [h1, h2]
theorem place1_ok (x : Item) (k : Int) : M.impl_placeOf_1 (x.1, x.2.1, x.2.2) k = some (cmpI x.1 k) := by
  unfold M.impl_placeOf_1; simp only [compare_ok, Option.bind_some]
theorem cmpI_neg {x y : Int} : cmpI x y < 0 ↔ x < y := by unfold cmpI; split <;> (try split) <;> omega
theorem cmpI_zero {x y : Int} : cmpI x y = 0 ↔ x = y := by unfold cmpI; split <;> (try split) <;> omega
def placeS (l : List Item) (k : Int) : Nat := l.countP fun x => decide (x.1 < k)
theorem place_lt {l : List Item} {k : Int} (hp : l.Pairwise (fun x y => x.1 < y.1)) {i : Nat} (h : i < l.length) : i < placeS l k ↔ l[i].1 < k := by
  induction l generalizing i with
  | nil => simp at h
  | cons x l ih =>
    rw [List.pairwise_cons] at hp
    unfold placeS at ih ⊢
    rw [List.countP_cons]
    cases i with
    | zero =>
      by_cases hx : x.1 < k
      · simp [hx]
      · have : l.countP (fun x => decide (x.1 < k)) = 0 := by
          rw [List.countP_eq_zero]; intro y hy; have := hp.1 y hy; simp; omega
        simp only [this, hx, decide_false, List.getElem_cons_zero]; simp
    | succ i =>
      simp only [List.length_cons] at h
      have := ih hp.2 (i := i) (by omega)
      simp only [List.getElem_cons_succ]
      by_cases hx : x.1 < k
      · simp only [hx, decide_true, if_true]; rw [← this]; omega
      · have h0 : l.countP (fun x => decide (x.1 < k)) = 0 := by
          rw [List.countP_eq_zero]; intro y hy; have := hp.1 y hy; simp; omega
        rw [h0] at this ⊢
        have hy := hp.1 l[i] (List.getElem_mem _)
        simp only [hx, decide_false]; constructor
        · intro hh; simp at hh
        · intro hh; omega
theorem placeS_le {l : List Item} {k : Int} : placeS l k ≤ l.length := List.countP_le_length
theorem search_ok {l : List Item} {k : Int} (hp : l.Pairwise (fun x y => x.1 < y.1)) (hl : l.length < 1000000) :
    M.slices_BinarySearchFunc_impl_Item_impl_Item_int__impl_placeOf_1 l k = some ((placeS l k : Int), l.any fun x => x.1 == k) := by
  unfold M.slices_BinarySearchFunc_impl_Item_impl_Item_int__impl_placeOf_1
  have hk := loop_to (f := fun (s2 : (Int) × (Int)) => (bif decide (s2.1 < s2.2) then
  (gidx l (wk .i64 (gshr .u64 (wk .u64 (w64 (s2.1 + s2.2))) 1))).bind fun x5 =>
  (M.impl_placeOf_1 (x5.1, x5.2.1, x5.2.2) k).bind fun r15 =>
  (bif decide (r15 < 0) then
  some (.inl (w64 ((wk .i64 (gshr .u64 (wk .u64 (w64 (s2.1 + s2.2))) 1)) + 1), s2.2))
 else
  some (.inl (s2.1, wk .i64 (gshr .u64 (wk .u64 (w64 (s2.1 + s2.2))) 1))))
 else
  some (.inr s2.1))) (fun s => ∃ i j : Nat, s = ((i : Int), (j : Int)) ∧ i ≤ j ∧ j ≤ l.length ∧ i ≤ placeS l k ∧ placeS l k ≤ j) (fun s => (s.2 - s.1).toNat) (r := (placeS l k : Int)) (by
    rintro _ ⟨i, j, rfl, hij, hjl, h1, h2⟩
    by_cases hlt : i < j
    · have e1 : decide ((i : Int) < (j : Int)) = true := decide_eq_true (by omega)
      have hmid : (i + j) / 2 < l.length := by omega
      simp only [e1, cond_true, mid_ok hij (by omega), gidx_nat hmid, Option.bind_some, place1_ok]
      have hpl := place_lt (k := k) hp hmid
      by_cases hc : l[(i + j) / 2].1 < k
      · have e2 : decide (cmpI l[(i + j) / 2].1 k < 0) = true := decide_eq_true (cmpI_neg.2 hc)
        simp only [e2, cond_true, w64_succ (i := (i + j) / 2) (by omega)]
        exact .inl ⟨_, rfl, ⟨_, _, rfl, by omega, hjl, by have := hpl.2 hc; omega, h2⟩, by simp only; omega⟩
      · have e2 : decide (cmpI l[(i + j) / 2].1 k < 0) = false := decide_eq_false (fun h => hc (cmpI_neg.1 h))
        simp only [e2, cond_false]
        exact .inl ⟨_, rfl, ⟨_, _, rfl, by omega, by omega, h1, Nat.le_of_not_lt fun h => hc (hpl.1 h)⟩, by simp only; omega⟩
    · have : i = placeS l k := by omega
      have e1 : decide ((i : Int) < (j : Int)) = false := decide_eq_false (by omega)
      refine .inr ?_
      simp only [e1, cond_false]; rw [this])
    (s := (0, (l.length : Int))) ⟨0, l.length, rfl, by omega, Nat.le_refl _, by omega, placeS_le⟩
  rw [hk]
  simp only [Option.bind_some]
  by_cases hlt : placeS l k < l.length
  · have e1 : decide ((placeS l k : Int) < (l.length : Int)) = true := decide_eq_true (by omega)
    simp only [e1, cond_true, gidx_nat hlt, Option.bind_some, place1_ok]
    congr 2
    have hpl := place_lt (k := k) hp hlt
    have hge : k ≤ l[placeS l k].1 := by
      refine Int.not_lt.1 fun h => ?_
      have := hpl.2 h; omega
    rw [Bool.eq_iff_iff, beq_iff_eq, cmpI_zero, List.any_eq_true]
    constructor
    · intro h; exact ⟨_, List.getElem_mem hlt, by simpa using h⟩
    · rintro ⟨x, hx, hxk⟩
      obtain ⟨i, hi, rfl⟩ := List.getElem_of_mem hx
      have hik : l[i].1 = k := by simpa using hxk
      have hle : ¬ i < placeS l k := fun h => by have := (place_lt hp hi).1 h; omega
      rcases Nat.lt_or_ge (placeS l k) i with h | h
      · have := List.pairwise_iff_getElem.1 hp _ _ hlt hi h; omega
      · have : i = placeS l k := by omega
        subst this; exact hik
  · have e1 : decide ((placeS l k : Int) < (l.length : Int)) = false := decide_eq_false (by omega)
    simp only [e1, cond_false]
    congr 2
    symm
    rw [List.any_eq_false]
    intro x hx hxk
    obtain ⟨i, hi, rfl⟩ := List.getElem_of_mem hx
    have hik : l[i].1 = k := by simpa using hxk
    have := (place_lt (k := k) hp hi).1 (by omega); omega
theorem placeOf_ok {l : List Item} {k : Int} (h : okStore l = true) : M.impl_placeOf l k = some ((placeS l k : Int), l.any fun x => x.1 == k) := by
  obtain ⟨h1, _, h3⟩ := okStore_iff.1 h
  unfold M.impl_placeOf
  rw [search_ok h3 (by omega)]; rfl
theorem place_get {l : List Item} {k : Int} (hp : l.Pairwise (fun x y => x.1 < y.1)) (h : l.any (fun x => x.1 == k) = true) : ∃ hi : placeS l k < l.length, l[placeS l k].1 = k ∧ l.find? (fun x => x.1 == k) = some l[placeS l k] := by
  obtain ⟨x, hx, hxk⟩ := List.any_eq_true.1 h
  obtain ⟨i, hi, rfl⟩ := List.getElem_of_mem hx
  have hik : l[i].1 = k := by simpa using hxk
  have hle : ¬ i < placeS l k := fun h => by have := (place_lt hp hi).1 h; omega
  have hlt : placeS l k < l.length := by omega
  have hge : ¬ placeS l k < i := fun h => by
    have h1 := List.pairwise_iff_getElem.1 hp _ _ hlt hi h
    have := (place_lt (k := k) hp hlt).2 (by omega); omega
  have : i = placeS l k := by omega
  refine ⟨hlt, by subst this; exact hik, ?_⟩
  rw [List.find?_eq_some_iff_getElem]
  refine ⟨by subst this; simpa using hik, _, hlt, rfl, fun j hj => ?_⟩
  have := (place_lt (k := k) hp (i := j) (by omega)).1 hj
  simp; omega

theorem clone_ok {v : List Int} (h : v.length ≤ 1048576) : M.slices_Clone_int_int v = some v := by
  unfold M.slices_Clone_int_int; rw [gapp_ok (by simp; omega)]; rfl
theorem implCopy_ok {x : Item} (h : x.2.1.length ≤ 1048576) : M.impl_copyItem (x.1, x.2.1, x.2.2) = some x := by
  unfold M.impl_copyItem; simp only [clone_ok h, Option.bind_some]
theorem keyAt_ok {l : List Item} {k : Int} (hl : l.length < 2000000) : M.spec_keyAt l k = some (match l.findIdx? (fun x => x.1 == k) with | some i => (i : Int) | none => -1) := by
  unfold M.spec_keyAt
  rw [loop_first (xs := l) (fun x => x.1 == k) (fun i => (i : Int))]
  · cases l.findIdx? (fun x => x.1 == k) <;> rfl
  · intro i h
    have e1 : decide ((i : Int) < (l.length : Int)) = true := decide_eq_true (by omega)
    simp only [e1, cond_true, gidx_nat h, Option.bind_some, w64_succ (i := i) (by omega)]
    cases l[i].1 == k <;> rfl
  · simp
def zItem : Item := (0, [], 0)
def getItem (l : List Item) (k : Int) : Item × Bool := if okStore l = true then (match l.find? (fun x => x.1 == k) with | some x => (x, true) | none => (zItem, false)) else (zItem, false)
theorem implGet_ok {l : List Item} {k : Int} (h : SmallS l) : M.impl_GetItem l k = some (getItem l k) := by
  unfold M.impl_GetItem getItem
  simp only [h.impl, Option.bind_some]
  cases ho : okStore l with
  | false => simp [zItem]
  | true =>
    simp only [Bool.not_true, cond_false, if_true, placeOf_ok ho, Option.bind_some]
    obtain ⟨_, hi, hp⟩ := okStore_iff.1 ho
    cases ha : l.any (fun x => x.1 == k) with
    | false =>
      have : l.find? (fun x => x.1 == k) = none := by
        rw [List.find?_eq_none]; rw [List.any_eq_false] at ha; exact ha
      simp [this, zItem]
    | true =>
      obtain ⟨hlt, _, hf⟩ := place_get hp ha
      simp only [hf, Bool.not_true, cond_false, gidx_nat hlt, Option.bind_some, implCopy_ok (x := l[placeS l k]) (by have := isItem_len (hi _ (List.getElem_mem hlt)); omega)]

theorem equalItem_ok {x y : Item} (h : x.2.1.length < 2000000) : M.laws_equalItem (x.1, x.2.1, x.2.2) (y.1, y.2.1, y.2.2) = some (decide (x = y)) := by
  unfold M.laws_equalItem
  simp only [equalInts_ok h, Option.bind_some]
  obtain ⟨a, b, c⟩ := x
  obtain ⟨a', b', c'⟩ := y
  by_cases h1 : a = a'
  · by_cases h2 : c = c'
    · simp [h1, h2]
    · have : (c == c') = false := beq_eq_false_iff_ne.2 h2
      simp [h1, h2, this]
  · have : (a == a') = false := beq_eq_false_iff_ne.2 h1
    simp [h1, this]
theorem bind_id {α : Type} (o : Option α) : o.bind (fun b => some b) = o := by cases o <;> rfl
theorem equalItems_ok {l m : List Item} (h : SmallS l) : M.laws_equalItems l m = some (decide (l = m)) := by
  unfold M.laws_equalItems
  by_cases hl : l.length = m.length
  · have e0 : ((l.length : Int) != (m.length : Int)) = false := by simp [hl]
    simp only [e0, cond_false]
    have hx : ∀ i (h : i < l.length) (h' : i < m.length), (Option.bind ((gidx l (i : Int)).bind fun x10 =>
  (gidx m (i : Int)).bind fun x15 =>
  (bif x10.1 != x15.1 then
  some true
 else
  (gidx l (i : Int)).bind fun x22 =>
  (gidx m (i : Int)).bind fun x27 =>
  (bif x22.2.2 != x27.2.2 then
  some true
 else
  (gidx l (i : Int)).bind fun x34 =>
  (gidx m (i : Int)).bind fun x44 =>
  (M.laws_equalInts x34.2.1 x44.2.1).bind fun r55 =>
  some (!r55)))) (fun b => some b)) = some (!decide (l[i] = m[i])) := by
      intro i hi hi'
      simp only [gidx_nat hi, gidx_nat hi', Option.bind_some, equalInts_ok (h.hb _ (List.getElem_mem hi))]
      generalize l[i] = x
      generalize m[i] = y
      obtain ⟨a, b, c⟩ := x
      obtain ⟨a', b', c'⟩ := y
      by_cases h1 : a = a'
      · by_cases h2 : c = c'
        · simp [h1, h2]
        · have : (c != c') = true := bne_iff_ne.2 h2
          simp [h1, h2, this]
      · have : (a != a') = true := bne_iff_ne.2 h1
        simp [h1, this]
    rw [loop_all (xs := l.zip m) (P := fun x => decide (x.1 = x.2)) (r := false)]
    · have : (l.zip m).all (fun x => decide (x.1 = x.2)) = decide (l = m) := by
        clear hx h e0
        induction l generalizing m with
        | nil => cases m with
          | nil => rfl
          | cons => simp at hl
        | cons x l ih => cases m with
          | nil => simp at hl
          | cons y m =>
            simp only [List.length_cons, Nat.add_right_cancel_iff] at hl
            rw [List.zip_cons_cons, List.all_cons, ih hl]
            by_cases h1 : x = y <;> by_cases h2 : l = m <;> simp [h1, h2]
      rw [this]
      by_cases h1 : l = m <;> simp [h1, selim]
    · intro i hi
      have hz : (l.zip m).length = l.length := by rw [List.length_zip]; omega
      have hi1 : i < l.length := by omega
      have hi2 : i < m.length := by omega
      have e1 : decide ((i : Int) < (l.length : Int)) = true := decide_eq_true (by omega)
      have e2 : w64 ((i : Int) + 1) = (i : Int) + 1 := w64_id (by have := h.hL; omega) (by have := h.hL; omega)
      have := hx i hi1 hi2
      rw [bind_id] at this
      simp only [e1, cond_true, this, Option.bind_some, e2, List.getElem_zip]
      by_cases hxy : l[i] = m[i] <;> simp [hxy]
    · have hz : (l.zip m).length = l.length := by rw [List.length_zip]; omega
      simp [hz]
  · have e0 : ((l.length : Int) != (m.length : Int)) = true := by simp; omega
    have : l ≠ m := fun h => hl (by rw [h])
    simp [e0, this]

end Go.Vs

namespace Go.Vs

section
variable {α S T R U : Type} {xs : List α}
end

end Go.Vs

namespace Go.Vs

/-! ## InBox -/
end Go.Vs

namespace Go.Vs

end Go.Vs

namespace Go.Vs

theorem sorted_uniq {l m : List Item} (hl : l.Pairwise (fun x y => x.1 < y.1)) (hm : m.Pairwise (fun x y => x.1 < y.1)) (h : ∀ x, x ∈ l ↔ x ∈ m) : l = m := by
  induction l generalizing m with
  | nil =>
    cases m with
    | nil => rfl
    | cons y m => exact absurd ((h y).2 (by simp)) (by simp)
  | cons x l ih =>
    cases m with
    | nil => exact absurd ((h x).1 (by simp)) (by simp)
    | cons y m =>
      rw [List.pairwise_cons] at hl hm
      have hxy : x = y := by
        rcases List.mem_cons.1 ((h x).1 (by simp)) with e | hx
        · exact e
        · rcases List.mem_cons.1 ((h y).2 (by simp)) with e | hy
          · exact e.symm
          · have h1 := hl.1 y hy
            have h2 := hm.1 x hx
            omega
      subst hxy
      rw [ih hl.2 hm.2 (fun z => ?_)]
      constructor
      · intro hz
        rcases List.mem_cons.1 ((h z).1 (by simp [hz])) with e | hz'
        · subst e; have := hl.1 z hz; omega
        · exact hz'
      · intro hz
        rcases List.mem_cons.1 ((h z).2 (by simp [hz])) with e | hz'
        · subst e; have := hm.1 z hz; omega
        · exact hz'
theorem mem_putS {l : List Item} {x y : Item} : y ∈ putS l x ↔ y = x ∨ (y ∈ l ∧ y.1 ≠ x.1) := by
  unfold putS
  simp only [List.mem_append, List.mem_cons, List.mem_filter, decide_eq_true_eq]
  constructor
  · rintro (⟨h1, h2⟩ | h | ⟨h1, h2⟩)
    · exact .inr ⟨h1, by omega⟩
    · exact .inl h
    · exact .inr ⟨h1, by omega⟩
  · rintro (h | ⟨h1, h2⟩)
    · exact .inr (.inl h)
    · rcases Int.lt_or_lt_of_ne h2 with h3 | h3
      · exact .inl ⟨h1, h3⟩
      · exact .inr (.inr ⟨h1, h3⟩)
theorem filter_lt {l : List Item} {k : Int} (hp : l.Pairwise (fun x y => x.1 < y.1)) : l.filter (fun y => decide (y.1 < k)) = l.take (placeS l k) := by
  induction l with
  | nil => rfl
  | cons x l ih =>
    rw [List.pairwise_cons] at hp
    unfold placeS at ih ⊢
    rw [List.filter_cons, List.countP_cons]
    by_cases hx : x.1 < k
    · simp [hx, ih hp.2]
    · have h0 : l.countP (fun x => decide (x.1 < k)) = 0 := by
        rw [List.countP_eq_zero]; intro y hy; have := hp.1 y hy; simp; omega
      have h1 := ih hp.2
      rw [h0] at h1 ⊢
      simp [hx, h1]
theorem filter_gt {l : List Item} {k : Int} (hp : l.Pairwise (fun x y => x.1 < y.1)) : l.filter (fun y => decide (k < y.1)) = l.drop (placeS l k + if (l.any fun x => x.1 == k) = true then 1 else 0) := by
  induction l with
  | nil => rfl
  | cons x l ih =>
    rw [List.pairwise_cons] at hp
    have ih := ih hp.2
    unfold placeS at ih ⊢
    rw [List.filter_cons, List.countP_cons, List.any_cons]
    by_cases hx : x.1 < k
    · have h2 : ¬ k < x.1 := by omega
      have h3 : (x.1 == k) = false := beq_eq_false_iff_ne.2 (by omega)
      simp only [hx, h2, h3, decide_true, decide_false, Bool.false_eq_true, if_false, if_true, Bool.false_or, ih]
      rw [show List.countP (fun x => decide (x.1 < k)) l + 1 + (if (l.any fun x => x.1 == k) = true then 1 else 0) = (List.countP (fun x => decide (x.1 < k)) l + (if (l.any fun x => x.1 == k) = true then 1 else 0)) + 1 by omega, List.drop_succ_cons]
    · have h0 : l.countP (fun x => decide (x.1 < k)) = 0 := by
        rw [List.countP_eq_zero]; intro y hy; have := hp.1 y hy; simp; omega
      have hall : l.filter (fun y => decide (k < y.1)) = l := by
        rw [List.filter_eq_self]; intro y hy; have := hp.1 y hy; simp; omega
      rw [h0, hall]
      by_cases hk : x.1 = k
      · have h2 : ¬ k < x.1 := by omega
        simp [hk]
      · have h2 : k < x.1 := by omega
        have h3 : (x.1 == k) = false := beq_eq_false_iff_ne.2 hk
        have h4 : (l.any fun x => x.1 == k) = false := by
          rw [List.any_eq_false]; intro y hy; have := hp.1 y hy; simp; omega
        simp [hx, h2, h3, h4]
theorem putS_found {l : List Item} {x : Item} (hp : l.Pairwise (fun x y => x.1 < y.1)) (h : (l.any fun y => y.1 == x.1) = true) : putS l x = l.set (placeS l x.1) x := by
  obtain ⟨hlt, _, _⟩ := place_get hp h
  unfold putS
  rw [filter_lt hp, filter_gt hp, if_pos h, List.set_eq_take_append_cons_drop, if_pos hlt]
theorem putS_new {l : List Item} {x : Item} (hp : l.Pairwise (fun x y => x.1 < y.1)) (h : (l.any fun y => y.1 == x.1) = false) : putS l x = l.take (placeS l x.1) ++ x :: l.drop (placeS l x.1) := by
  unfold putS
  rw [filter_lt hp, filter_gt hp, h]; rfl

theorem copyItems_ok {l : List Item} (h : SmallS l) : M.impl_copyItems l = some l := by
  unfold M.impl_copyItems
  rw [gmake_ok (by omega) (by have := h.1; omega)]
  simp only [Option.bind_some, Int.toNat_natCast]
  rw [copy_loop (a := l) (g := fun x => M.impl_copyItem (x.1, x.2.1, x.2.2)) h.1 (fun x hx' => implCopy_ok (h.2 x hx'))]
  · rfl
  · intro s i hi hi' hg
    have e1 : decide ((i : Int) < (l.length : Int)) = true := decide_eq_true (by omega)
    simp only [e1, cond_true, gidx_nat hi, gidx_nat hi', Option.bind_some, hg, w64_succ (i := i) (by have := h.1; omega), Int.toNat_natCast]
  · intro s; simp
theorem gcopyAt_mid {α : Type} {A B ys : List α} {n i : Nat} (hA : A.length = i) : gcopyAt (A ++ B) i n ys = A ++ (ys.take n ++ B.drop (min n ys.length)) := by
  subst hA
  unfold gcopyAt
  rw [List.take_left, List.drop_append, List.drop_eq_nil_of_le (by omega), Nat.add_sub_cancel_left, List.nil_append]
theorem insert_ok {s : List Item} {x : Item} {i : Nat} (hi : i ≤ s.length) (hl : s.length ≤ 1000000) : M.slices_Insert_impl_Item_impl_Item s (i : Int) [x] = some (s.take i ++ x :: s.drop i) := by
  unfold M.slices_Insert_impl_Item_impl_Item
  have g1 : gslice s (i : Int) (s.length : Int) = some (s.drop i) := by
    rw [gslice_ok (by omega) (by omega) (by omega)]; simp
  have e1 : ((([x] : List Item).length : Int) == 0) = false := rfl
  simp only [g1, e1, cond_false, Option.bind_some]
  by_cases hc : i = s.length
  · have e2 : ((i : Int) == (s.length : Int)) = true := beq_iff_eq.2 (by omega)
    simp only [e2, cond_true]
    rw [gapp_ok (by simp; omega)]
    simp [hc]
  · have e2 : ((i : Int) == (s.length : Int)) = false := beq_eq_false_iff_ne.2 (by omega)
    have e3 : w64 ((s.length : Int) + (([x] : List Item).length : Int)) = ((s.length + 1 : Nat) : Int) := w64_id (by simp; omega) (by simp; omega)
    have e4 : decide ((s.length : Int) < ((s.length + 1 : Nat) : Int)) = true := decide_eq_true (by omega)
    have g2 : gslice s 0 (i : Int) = some (s.take i) := by
      rw [gslice_ok (by omega) (by omega) (by omega)]; simp
    have e5 : w64 (((s.length + 1 : Nat) : Int) - (i : Int)) = ((s.length + 1 - i : Nat) : Int) := by rw [w64_id (by omega) (by omega)]; omega
    have g3 : gappz (s.take i) ((s.length + 1 - i : Nat) : Int) ((0, [], 0) : Item) = some (s.take i ++ List.replicate (s.length + 1 - i) ((0, [], 0) : Item)) := by
      unfold gappz; rw [if_pos (by simp; omega)]; simp
    simp only [e2, cond_false, e3, e4, cond_true, g2, e5, g3, Option.bind_some]
    have hA : (s.take i).length = i := by rw [List.length_take]; omega
    have hL : (s.take i ++ List.replicate (s.length + 1 - i) ((0, [], 0) : Item)).length = s.length + 1 := by simp; omega
    have g4 : gslice (s.take i ++ List.replicate (s.length + 1 - i) ((0, [], 0) : Item)) (i : Int) ((s.take i ++ List.replicate (s.length + 1 - i) ((0, [], 0) : Item)).length : Int) = some (List.replicate (s.length + 1 - i) ((0, [], 0) : Item)) := by
      rw [gslice_ok (by omega) (by omega) (by omega)]
      simp only [Int.toNat_natCast, List.take_length]
      rw [List.drop_append_of_le_length (by simp; omega), List.drop_eq_nil_of_le (by simp; omega), List.nil_append]
    have c1 : gcopyAt (s.take i ++ List.replicate (s.length + 1 - i) ((0, [], 0) : Item)) ((i : Int)).toNat (List.replicate (s.length + 1 - i) ((0, [], 0) : Item)).length [x] = s.take i ++ x :: List.replicate (s.length - i) ((0, [], 0) : Item) := by
      rw [Int.toNat_natCast, gcopyAt_mid hA, List.take_of_length_le (l := [x]) (by simp; omega), List.drop_replicate]
      have : s.length + 1 - i - min (List.replicate (s.length + 1 - i) ((0, [], 0) : Item)).length ([x] : List Item).length = s.length - i := by
        simp only [List.length_replicate, List.length_cons, List.length_nil]; omega
      rw [this]; rfl
    have hL2 : (s.take i ++ x :: List.replicate (s.length - i) ((0, [], 0) : Item)).length = s.length + 1 := by simp; omega
    have e6 : w64 ((i : Int) + (([x] : List Item).length : Int)) = ((i + 1 : Nat) : Int) := w64_id (by simp; omega) (by simp; omega)
    have g5 : gslice (s.take i ++ x :: List.replicate (s.length - i) ((0, [], 0) : Item)) ((i + 1 : Nat) : Int) ((s.take i ++ x :: List.replicate (s.length - i) ((0, [], 0) : Item)).length : Int) = some (List.replicate (s.length - i) ((0, [], 0) : Item)) := by
      rw [gslice_ok (by omega) (by omega) (by omega)]
      simp only [Int.toNat_natCast, List.take_length]
      rw [List.drop_append, List.drop_eq_nil_of_le (by simp; omega)]
      have : i + 1 - (s.take i).length = 1 := by simp; omega
      rw [this]; simp
    simp only [g4, c1, e6, g5, Option.bind_some]
    congr 1
    have hA2 : (s.take i ++ [x]).length = i + 1 := by rw [List.length_append, hA]; rfl
    have := gcopyAt_mid (A := s.take i ++ [x]) (B := List.replicate (s.length - i) ((0, [], 0) : Item)) (ys := s.drop i) (n := (List.replicate (s.length - i) ((0, [], 0) : Item)).length) hA2
    rw [List.append_assoc, List.singleton_append] at this
    rw [Int.toNat_natCast, this, List.take_of_length_le (l := s.drop i) (by simp), List.drop_eq_nil_of_le (as := List.replicate (s.length - i) ((0, [], 0) : Item)) (by simp)]
    simp
theorem implPutItem_ok {l : List Item} {x : Item} (h : SmallS l) (hx : x.2.1.length ≤ 1048576) : M.impl_PutItem l (x.1, x.2.1, x.2.2) = some (putItem l x) := by
  unfold M.impl_PutItem putItem
  simp only [h.impl, implItem_ok (x := x) (by omega), Option.bind_some]
  cases h1 : okStore l with
  | false => simp
  | true =>
    cases h2 : isItem x with
    | false => simp
    | true =>
      obtain ⟨hl, hi, hp⟩ := okStore_iff.1 h1
      simp only [Bool.not_true, cond_false, Option.bind_some, placeOf_ok h1, true_and]
      cases ha : l.any (fun y => y.1 == x.1) with
      | true =>
        obtain ⟨hlt, _, _⟩ := place_get hp ha
        simp only [cond_true, copyItems_ok h, implCopy_ok hx, gidx_nat hlt, Option.bind_some, Int.toNat_natCast, putS_found hp ha, List.length_set]
        rw [if_pos hl]
      | false =>
        simp only [cond_false]
        have hpl := placeS_le (l := l) (k := x.1)
        rw [putS_new hp ha]
        have hlen : (l.take (placeS l x.1) ++ x :: l.drop (placeS l x.1)).length = l.length + 1 := by simp; omega
        rw [hlen]
        by_cases h16 : l.length = 16
        · have e : ((l.length : Int) == 16) = true := beq_iff_eq.2 (by omega)
          simp only [e, cond_true]
          rw [if_neg (by omega)]
        · have e : ((l.length : Int) == 16) = false := beq_eq_false_iff_ne.2 (by omega)
          simp only [e, cond_false, copyItems_ok h, implCopy_ok hx, Option.bind_some, insert_ok (x := x) hpl (by omega)]
          rw [if_pos (by omega)]
def dropS (l : List Item) (k : Int) : List Item := l.filter (fun x => x.1 != k)
theorem mem_dropS {l : List Item} {k : Int} {x : Item} : x ∈ dropS l k ↔ x ∈ l ∧ x.1 ≠ k := by unfold dropS; rw [List.mem_filter]; simp
theorem dropS_sub {l : List Item} {k : Int} : (dropS l k).Sublist l := List.filter_sublist
def dropItem (l : List Item) (k : Int) : List Item × Bool := if okStore l = true ∧ (l.any fun x => x.1 == k) = true then (dropS l k, true) else ([], false)
theorem specDropItem_ok {l : List Item} {k : Int} (h : SmallS l) : M.spec_DropItem l k = some (dropItem l k) := by
  unfold M.spec_DropItem dropItem
  simp only [h.specv, Option.bind_some, keyAt_ok h.hL]
  cases h1 : okStore l with
  | false => simp
  | true =>
    obtain ⟨hl, hi, hp⟩ := okStore_iff.1 h1
    have he : (l.any fun x => x.1 == k) = (l.findIdx? fun x => x.1 == k).isSome := by
      rw [Bool.eq_iff_iff, List.any_eq_true, List.findIdx?_isSome, List.any_eq_true]
    rw [he]
    cases hf : l.findIdx? (fun x => x.1 == k) with
    | none => simp
    | some i =>
      have e1 : decide ((i : Int) < 0) = false := decide_eq_false (by omega)
      simp only [Bool.not_true, cond_false, Option.bind_some, e1, Option.isSome_some, and_self, if_true]
      refine fold_bind (xs := l) (fun s i => (s, i)) (fun s y => if (y.1 != k) = true then s ++ [y] else s) (fun i s => s.length ≤ i) (fun s => s) (by simp) ?_ ?_ ?_
      · intro s i h hs
        have e1 : decide ((i : Int) < (l.length : Int)) = true := decide_eq_true (by omega)
        simp only [e1, cond_true, gidx_nat h, Option.bind_some, w64_succ (i := i) (by omega)]
        cases hk : l[i].1 != k with
        | true =>
          simp only [cond_true, copyItem_spec (x := l[i]) (by have := isItem_len (hi _ (List.getElem_mem h)); omega), Option.bind_some, if_true]
          rw [gapp_ok (by simp; omega)]
          exact ⟨by first | rfl | trivial, by simp; omega⟩
        | false => exact ⟨by first | rfl | trivial, by simp only [Bool.false_eq_true, if_false]; omega⟩
      · intro s _; simp
      · intro _
        rw [foldl_filter]; simp [dropS]
theorem drop_filter {l : List Item} {k : Int} (hp : l.Pairwise (fun x y => x.1 < y.1)) (h : (l.any fun x => x.1 == k) = true) : l.take (placeS l k) ++ l.drop (placeS l k + 1) = dropS l k := by
  have h1 := filter_lt (k := k) hp
  have h2 := filter_gt (k := k) hp
  rw [if_pos h] at h2
  rw [← h1, ← h2]
  refine sorted_uniq ?_ (hp.sublist dropS_sub) (fun x => ?_)
  · rw [List.pairwise_append]
    refine ⟨hp.sublist List.filter_sublist, hp.sublist List.filter_sublist, fun y hy z hz => ?_⟩
    have h3 : y.1 < k := by simpa using (List.mem_filter.1 hy).2
    have h4 : k < z.1 := by simpa using (List.mem_filter.1 hz).2
    omega
  · simp only [List.mem_append, List.mem_filter, decide_eq_true_eq, mem_dropS]
    constructor
    · rintro (⟨h1, h2⟩ | ⟨h1, h2⟩) <;> exact ⟨h1, by omega⟩
    · rintro ⟨h1, h2⟩
      rcases Int.lt_or_lt_of_ne h2 with h3 | h3
      · exact .inl ⟨h1, h3⟩
      · exact .inr ⟨h1, h3⟩
theorem implDropItem_ok {l : List Item} {k : Int} (h : SmallS l) : M.impl_DropItem l k = some (dropItem l k) := by
  unfold M.impl_DropItem dropItem
  simp only [h.impl, Option.bind_some]
  cases h1 : okStore l with
  | false => simp
  | true =>
    obtain ⟨hl, hi, hp⟩ := okStore_iff.1 h1
    simp only [Bool.not_true, cond_false, placeOf_ok h1, Option.bind_some]
    cases ha : l.any (fun x => x.1 == k) with
    | false => simp
    | true =>
      obtain ⟨hlt, _, _⟩ := place_get hp ha
      simp only [Bool.not_true, cond_false, copyItems_ok h, Option.bind_some, and_self, if_true]
      unfold M.slices_Delete_impl_Item_impl_Item
      have e1 : w64 ((placeS l k : Int) + 1) = ((placeS l k + 1 : Nat) : Int) := w64_succ (by omega)
      have e2 : ((placeS l k : Int) == ((placeS l k + 1 : Nat) : Int)) = false := beq_eq_false_iff_ne.2 (by omega)
      have g0 : gthree (placeS l k : Int) ((placeS l k + 1 : Nat) : Int) (l.length : Int) l.length = some () := by
        unfold gthree; rw [if_pos (by omega)]
      have g1 : gslice l 0 (placeS l k : Int) = some (l.take (placeS l k)) := by
        rw [gslice_ok (by omega) (by omega) (by omega)]; simp
      have g2 : gslice l ((placeS l k + 1 : Nat) : Int) (l.length : Int) = some (l.drop (placeS l k + 1)) := by
        rw [gslice_ok (by omega) (by omega) (by omega)]; simp
      simp only [e1, g0, e2, cond_false, g1, g2, Option.bind_some]
      rw [gapp_ok (by simp; omega)]
      simp only [Option.bind_some, drop_filter hp ha]

/-! ## What is drawn -/
theorem NearI.le {x : Item} (h : NearI x) : x.2.1.length ≤ 1048576 := by have := h.2.1.1; omega
theorem putItem_some {l : List Item} {x : Item} (h : (putItem l x).2 = true) : okStore l = true ∧ isItem x = true ∧ (putS l x).length ≤ 16 ∧ putItem l x = (putS l x, true) ∧ okStore (putS l x) = true := by
  unfold putItem at h ⊢
  split at h
  · rename_i hc
    rw [if_pos hc]
    exact ⟨hc.1, hc.2.1, hc.2.2, rfl, by rw [putS_okStore hc.1 hc.2.1]; simpa using hc.2.2⟩
  · cases h
theorem find_key0 {l : List Item} {x : Item} (hp : l.Pairwise (fun x y => x.1 < y.1)) (hx : x ∈ l) : l.find? (fun y => y.1 == x.1) = some x := by
  obtain ⟨i, hi, rfl⟩ := List.getElem_of_mem hx
  rw [List.find?_eq_some_iff_getElem]
  refine ⟨by simp, i, hi, rfl, fun j hj => ?_⟩
  have := List.pairwise_iff_getElem.1 hp _ _ (by omega) hi hj
  simp; omega
section
variable {code : List UInt8}
theorem dropItem_some {l : List Item} {k : Int} (h : (dropItem l k).2 = true) : okStore l = true ∧ (l.any fun x => x.1 == k) = true ∧ dropItem l k = (dropS l k, true) ∧ okStore (dropS l k) = true := by
  unfold dropItem at h ⊢
  split at h
  · rename_i hc
    rw [if_pos hc]
    exact ⟨hc.1, hc.2, rfl, okStore_sub hc.1 dropS_sub⟩
  · cases h
end
end Go.Vs

namespace Go.Vs

end Go.Vs

namespace Go.Vs

end Go.Vs

namespace Go.Vs

end Go.Vs

namespace Go.Vs

noncomputable def G.sift {α : Type} (cmp : α → α → Option Int) (data_0 : List α) (lo_1 : Int) (hi_2 : Int) (first_3 : Int) : Option ((List α)) :=
  Option.bind (loopM (fun (s2 : (List α) × (Int)) => (bif decide (hi_2 ≤ (w64 ((w64 (2 * s2.2)) + 1))) then
  some (.inr (.inl s2.1))
 else
  Option.bind ((bif decide ((w64 ((w64 ((w64 (2 * s2.2)) + 1)) + 1)) < hi_2) then
  (gidx s2.1 (w64 (first_3 + (w64 ((w64 (2 * s2.2)) + 1))))).bind fun x8 =>
  (gidx s2.1 (w64 ((w64 (first_3 + (w64 ((w64 (2 * s2.2)) + 1)))) + 1))).bind fun x15 =>
  (cmp x8 x15).bind fun r23 =>
  some (decide (r23 < 0))
 else
  some false)) fun o6 =>
  Option.bind ((bif o6 then
  some (w64 ((w64 ((w64 (2 * s2.2)) + 1)) + 1))
 else
  some (w64 ((w64 (2 * s2.2)) + 1)))) fun o29 =>
  (gidx s2.1 (w64 (first_3 + s2.2))).bind fun x32 =>
  (gidx s2.1 (w64 (first_3 + o29))).bind fun x39 =>
  (cmp x32 x39).bind fun r47 =>
  (bif !(decide (r47 < 0)) then
  some (.inr (.inr s2.1))
 else
  (gidx s2.1 (w64 (first_3 + o29))).bind fun x52 =>
  (gidx s2.1 (w64 (first_3 + s2.2))).bind fun x59 =>
  (gidx s2.1 (w64 (first_3 + s2.2))).bind fun x66 =>
  (gidx (s2.1.set (w64 (first_3 + s2.2)).toNat x52) (w64 (first_3 + o29))).bind fun x72 =>
  some (.inl (((s2.1.set (w64 (first_3 + s2.2)).toNat x52).set (w64 (first_3 + o29)).toNat x59), o29))))) (data_0, lo_1)) (selim (fun t78 => some t78)
   (fun t81 => some t81))

noncomputable def G.heap {α : Type} (cmp : α → α → Option Int) (data_0 : List α) (a_1 : Int) (b_2 : Int) : Option ((List α)) :=
  Option.bind (loopM (fun (s2 : (List α) × (Int)) => (bif decide (0 ≤ s2.2) then
  (G.sift cmp s2.1 s2.2 (w64 (b_2 - a_1)) a_1).bind fun r6 =>
  some (.inl (r6, w64 (s2.2 - 1)))
 else
  some (.inr s2.1))) (data_0, w64 ((w64 ((w64 (b_2 - a_1)) - 1)).tdiv 2))) fun o1 =>
  Option.bind (loopM (fun (s14 : (List α) × (Int)) => (bif decide (0 ≤ s14.2) then
  (gidx s14.1 (w64 (a_1 + s14.2))).bind fun x18 =>
  (gidx s14.1 a_1).bind fun x25 =>
  (gidx s14.1 a_1).bind fun x32 =>
  (gidx (s14.1.set a_1.toNat x18) (w64 (a_1 + s14.2))).bind fun x38 =>
  (G.sift cmp ((s14.1.set a_1.toNat x18).set (w64 (a_1 + s14.2)).toNat x25) 0 s14.2 a_1).bind fun r44 =>
  some (.inl (r44, w64 (s14.2 - 1)))
 else
  some (.inr s14.1))) (o1, w64 ((w64 (b_2 - a_1)) - 1))) fun o13 =>
  some o13

noncomputable def G.o2 {α : Type} (cmp : α → α → Option Int) (data_0 : List α) (a_1 : Int) (b_2 : Int) (swaps_3 : Int) : Option (Int × Int × Int) :=
  (gidx data_0 b_2).bind fun x1 =>
  (gidx data_0 a_1).bind fun x8 =>
  (cmp x1 x8).bind fun r16 =>
  (bif decide (r16 < 0) then
  some (b_2, a_1, w64 (swaps_3 + 1))
 else
  some (a_1, b_2, swaps_3))

noncomputable def G.par {α : Type} (cmp : α → α → Option Int) (data_0 : List α) (a_1 : Int) (b_2 : Int) : Option (Bool × (List α)) :=
  Option.bind (loopM (fun (s2 : (List α) × (Int) × (Int)) => (bif decide (s2.2.2 < 5) then
  Option.bind (Option.bind (loopM (fun (s8 : (Int)) => Option.bind ((bif decide (s8 < b_2) then
  (gidx s2.1 s8).bind fun x12 =>
  (gidx s2.1 (w64 (s8 - 1))).bind fun x19 =>
  (cmp x12 x19).bind fun r27 =>
  some (!(decide (r27 < 0)))
 else
  some false)) fun o10 =>
  (bif o10 then
  some (.inl (w64 (s8 + 1)))
 else
  some (.inr s8))) s2.2.1) fun o7 =>
  (bif o7 == b_2 then
  some (.inr (s2.1, true))
 else
  (bif decide ((w64 (b_2 - a_1)) < 50) then
  some (.inr (s2.1, false))
 else
  (gidx s2.1 (w64 (o7 - 1))).bind fun x37 =>
  (gidx s2.1 o7).bind fun x44 =>
  (gidx s2.1 o7).bind fun x51 =>
  (gidx (s2.1.set o7.toNat x37) (w64 (o7 - 1))).bind fun x57 =>
  Option.bind ((bif decide (2 ≤ (w64 (o7 - a_1))) then
  Option.bind (loopM (fun (s66 : (List α) × (Int)) => (bif decide (1 ≤ s66.2) then
  (gidx s66.1 s66.2).bind fun x70 =>
  (gidx s66.1 (w64 (s66.2 - 1))).bind fun x77 =>
  (cmp x70 x77).bind fun r85 =>
  (bif !(decide (r85 < 0)) then
  some (.inr s66.1)
 else
  (gidx s66.1 (w64 (s66.2 - 1))).bind fun x90 =>
  (gidx s66.1 s66.2).bind fun x97 =>
  (gidx s66.1 s66.2).bind fun x104 =>
  (gidx (s66.1.set s66.2.toNat x90) (w64 (s66.2 - 1))).bind fun x110 =>
  some (.inl (((s66.1.set s66.2.toNat x90).set (w64 (s66.2 - 1)).toNat x97), w64 (s66.2 - 1))))
 else
  some (.inr s66.1))) (((s2.1.set o7.toNat x37).set (w64 (o7 - 1)).toNat x44), w64 (o7 - 1))) fun o65 =>
  some o65
 else
  some ((s2.1.set o7.toNat x37).set (w64 (o7 - 1)).toNat x44))) fun o63 =>
  (bif decide (2 ≤ (w64 (b_2 - o7))) then
  Option.bind (loopM (fun (s122 : (List α) × (Int)) => (bif decide (s122.2 < b_2) then
  (gidx s122.1 s122.2).bind fun x126 =>
  (gidx s122.1 (w64 (s122.2 - 1))).bind fun x133 =>
  (cmp x126 x133).bind fun r141 =>
  (bif !(decide (r141 < 0)) then
  some (.inr s122.1)
 else
  (gidx s122.1 (w64 (s122.2 - 1))).bind fun x146 =>
  (gidx s122.1 s122.2).bind fun x153 =>
  (gidx s122.1 s122.2).bind fun x160 =>
  (gidx (s122.1.set s122.2.toNat x146) (w64 (s122.2 - 1))).bind fun x166 =>
  some (.inl (((s122.1.set s122.2.toNat x146).set (w64 (s122.2 - 1)).toNat x153), w64 (s122.2 + 1))))
 else
  some (.inr s122.1))) (o63, w64 (o7 + 1))) fun o121 =>
  some (.inl (o121, o7))
 else
  some (.inl (o63, o7)))))) (selim (fun t174 => some (.inl (t174.1, t174.2, w64 (s2.2.2 + 1))))
   (fun t177 => some (.inr (.inr t177))))
 else
  some (.inr (.inl s2.1)))) (data_0, w64 (a_1 + 1), 0)) (selim (fun t180 => some (false, t180))
   (fun t183 => some (t183.2, t183.1)))

noncomputable def G.peq {α : Type} (cmp : α → α → Option Int) (data_0 : List α) (a_1 : Int) (b_2 : Int) (pivot_3 : Int) : Option (Int × (List α)) :=
  (gidx data_0 pivot_3).bind fun x1 =>
  (gidx data_0 a_1).bind fun x8 =>
  (gidx data_0 a_1).bind fun x15 =>
  (gidx (data_0.set a_1.toNat x1) pivot_3).bind fun x21 =>
  Option.bind (loopM (fun (s28 : (List α) × (Int) × (Int)) => Option.bind (loopM (fun (s32 : (Int)) => Option.bind ((bif decide (s32 ≤ s28.2.2) then
  (gidx s28.1 a_1).bind fun x36 =>
  (gidx s28.1 s32).bind fun x43 =>
  (cmp x36 x43).bind fun r51 =>
  some (!(decide (r51 < 0)))
 else
  some false)) fun o34 =>
  (bif o34 then
  some (.inl (w64 (s32 + 1)))
 else
  some (.inr s32))) s28.2.1) fun o31 =>
  Option.bind (loopM (fun (s60 : (Int)) => Option.bind ((bif decide (o31 ≤ s60) then
  (gidx s28.1 a_1).bind fun x64 =>
  (gidx s28.1 s60).bind fun x71 =>
  (cmp x64 x71).bind fun r79 =>
  some (decide (r79 < 0))
 else
  some false)) fun o62 =>
  (bif o62 then
  some (.inl (w64 (s60 - 1)))
 else
  some (.inr s60))) s28.2.2) fun o59 =>
  (bif decide (o59 < o31) then
  some (.inr (s28.1, o31))
 else
  (gidx s28.1 o59).bind fun x88 =>
  (gidx s28.1 o31).bind fun x95 =>
  (gidx s28.1 o31).bind fun x102 =>
  (gidx (s28.1.set o31.toNat x88) o59).bind fun x108 =>
  some (.inl (((s28.1.set o31.toNat x88).set o59.toNat x95), w64 (o31 + 1), w64 (o59 - 1))))) (((data_0.set a_1.toNat x1).set pivot_3.toNat x8), w64 (a_1 + 1), w64 (b_2 - 1))) fun o27 =>
  some (o27.2, o27.1)

section
end
end Go.Vs

namespace Go.Vs

section
variable {α : Type} [Inhabited α]
def el (d : List α) (i : Nat) : α := d.getD i default
theorem el_lt {d : List α} {i : Nat} (h : i < d.length) : el d i = d[i] := by simp [el, List.getD, h]
structure PermR (a b : Nat) (d d' : List α) : Prop where
  len : d'.length = d.length
  out : ∀ i, i < a ∨ b ≤ i → el d' i = el d i
  perm : d'.Perm d
theorem PermR.refl {a b : Nat} (d : List α) : PermR a b d d := ⟨rfl, fun _ _ => rfl, List.Perm.refl _⟩
theorem PermR.trans {a b : Nat} {d d' d'' : List α} (h : PermR a b d d') (k : PermR a b d' d'') : PermR a b d d'' :=
  ⟨k.len.trans h.len, fun i hi => (k.out i hi).trans (h.out i hi), k.perm.trans h.perm⟩
theorem PermR.mono {a b a' b' : Nat} {d d' : List α} (h : PermR a b d d') (ha : a' ≤ a) (hb : b ≤ b') : PermR a' b' d d' :=
  ⟨h.len, fun i hi => h.out i (by omega), h.perm⟩
theorem PermR.mem {a b : Nat} {d d' : List α} (h : PermR a b d d') (hab : a ≤ b) (hb : b ≤ d.length) {i : Nat} (h1 : a ≤ i) (h2 : i < b) : ∃ j, a ≤ j ∧ j < b ∧ el d' i = el d j := by
  have cut : ∀ (e : List α), e.length = d.length → e = e.take a ++ ((e.take b).drop a ++ e.drop b) := by
    intro e he
    rw [← List.append_assoc]
    have : e.take a ++ (e.take b).drop a = e.take b := by
      have := List.take_append_drop a (e.take b)
      rwa [List.take_take, Nat.min_eq_left hab] at this
    rw [this, List.take_append_drop]
  have hl := h.len
  have e1 : d'.take a = d.take a := by
    apply List.ext_getElem
    · simp [hl]
    · intro k h3 h4
      simp only [List.length_take] at h3 h4
      rw [List.getElem_take, List.getElem_take, ← el_lt, ← el_lt]
      exact h.out k (by omega)
  have e2 : d'.drop b = d.drop b := by
    apply List.ext_getElem
    · simp [hl]
    · intro k h3 h4
      simp only [List.length_drop] at h3 h4
      rw [List.getElem_drop, List.getElem_drop, ← el_lt, ← el_lt]
      exact h.out (b + k) (by omega)
  have hp := h.perm
  rw [cut d' hl, cut d rfl, e1, e2] at hp
  have hp2 := (List.perm_append_right_iff _).1 ((List.perm_append_left_iff _).1 hp)
  have hm : el d' i ∈ (d'.take b).drop a := by
    rw [el_lt (by omega)]
    refine List.mem_iff_getElem.2 ⟨i - a, by simp; omega, ?_⟩
    simp only [List.getElem_drop, List.getElem_take]
    congr 1; omega
  have hm2 := hp2.mem_iff.1 hm
  obtain ⟨k, hk, e⟩ := List.mem_iff_getElem.1 hm2
  simp only [List.length_drop, List.length_take] at hk
  refine ⟨a + k, by omega, by omega, ?_⟩
  rw [← e, el_lt (by omega)]
  simp only [List.getElem_drop, List.getElem_take]
end

structure Lin {α : Type} (lt : α → α → Bool) (p : α → Prop) : Prop where
  irrefl : ∀ x, p x → lt x x = false
  trans : ∀ x y z, p x → p y → p z → lt x y = true → lt y z = true → lt x z = true
  total : ∀ x y, p x → p y → x ≠ y → lt x y = true ∨ lt y x = true
theorem Lin.asymm {α : Type} {lt : α → α → Bool} {p : α → Prop} (h : Lin lt p) {x y : α} (hx : p x) (hy : p y) (hl : lt x y = true) : lt y x = false := by
  cases e : lt y x with
  | false => rfl
  | true => have := h.trans x y x hx hy hx hl e; rw [h.irrefl x hx] at this; cases this
theorem Lin.ntrans {α : Type} {lt : α → α → Bool} {p : α → Prop} (h : Lin lt p) {x y z : α} (hx : p x) (hy : p y) (hz : p z) (h1 : lt x y = false) (h2 : lt y z = false) : lt x z = false := by
  cases e : lt x z with
  | false => rfl
  | true =>
    rcases Classical.em (x = y) with rfl | hne
    · rw [h2] at e; cases e
    · rcases h.total x y hx hy hne with h' | h'
      · rw [h1] at h'; cases h'
      · have := h.trans y x z hy hx hz h' e
        rw [h2] at this; cases this
def AllP {α : Type} [Inhabited α] (p : α → Prop) (d : List α) : Prop := ∀ i, i < d.length → p (el d i)
theorem AllP.of {α : Type} [Inhabited α] {p : α → Prop} {d : List α} (h : ∀ x ∈ d, p x) : AllP p d := fun i hi => h _ (by rw [el_lt hi]; exact List.getElem_mem _)
theorem AllP.perm {α : Type} [Inhabited α] {p : α → Prop} {d d' : List α} (h : AllP p d) (hp : d'.Perm d) : AllP p d' := by
  refine AllP.of fun x hx => ?_
  obtain ⟨i, hi, e⟩ := List.mem_iff_getElem.1 (hp.mem_iff.1 hx)
  rw [← e, ← el_lt hi]; exact h i hi
def Asc {α : Type} [Inhabited α] (lt : α → α → Bool) (a b : Nat) (d : List α) : Prop := ∀ i j, a ≤ i → i < j → j < b → lt (el d j) (el d i) = false
end Go.Vs

namespace Go.Vs

section
variable {α : Type} {cmp : α → α → Option Int} {lt : α → α → Bool} {p : α → Prop}
end

section
variable {α : Type} [Inhabited α] {cmp : α → α → Option Int} {lt : α → α → Bool} {p : α → Prop}
end
end Go.Vs

namespace Go.Vs

section
variable {α : Type} [Inhabited α] {cmp : α → α → Option Int} {lt : α → α → Bool} {p : α → Prop}
end
end Go.Vs

namespace Go.Vs

section
variable {α : Type} [Inhabited α] {cmp : α → α → Option Int} {lt : α → α → Bool} {p : α → Prop}

structure Parted (lt : α → α → Bool) (a b : Nat) (d : List α) (m : Nat) (d' : List α) : Prop where
  ge : a ≤ m
  le : m < b
  perm : PermR a b d d'
  low : ∀ i, a ≤ i → i < m → lt (el d' i) (el d' m) = true
  high : ∀ i, m < i → i < b → lt (el d' i) (el d' m) = false
end
end Go.Vs

namespace Go.Vs

section
variable {α : Type} [Inhabited α] {cmp : α → α → Option Int} {lt : α → α → Bool} {p : α → Prop}

def NIn (lt : α → α → Bool) (a0 b0 a b : Nat) (d : List α) : Prop := ∀ i j, a0 ≤ i → i < j → j < b0 → ¬ (a ≤ i ∧ j < b) → lt (el d j) (el d i) = false
theorem NIn.perm {a0 b0 a b : Nat} {d d' : List α} (h : NIn lt a0 b0 a b d) (hP : PermR a b d d') (ha : a0 ≤ a) (hab : a ≤ b) (hb : b ≤ b0) (hb0 : b0 ≤ d.length) : NIn lt a0 b0 a b d' := by
  intro i j h1 h2 h3 h4
  have cl : ∀ k, ∃ k', el d' k = el d k' ∧ ((a ≤ k ∧ k < b) → a ≤ k' ∧ k' < b) ∧ (¬ (a ≤ k ∧ k < b) → k' = k) := by
    intro k
    by_cases hk : a ≤ k ∧ k < b
    · obtain ⟨k', g1, g2, g3⟩ := hP.mem hab (by omega) hk.1 hk.2
      exact ⟨k', g3, fun _ => ⟨g1, g2⟩, fun h => absurd hk h⟩
    · exact ⟨k, hP.out k (by omega), fun h => absurd h hk, fun _ => rfl⟩
  obtain ⟨i', e1, q1, q2⟩ := cl i
  obtain ⟨j', e2, q3, q4⟩ := cl j
  rw [e1, e2]
  by_cases hi : a ≤ i ∧ i < b
  · have := q1 hi
    by_cases hj : a ≤ j ∧ j < b
    · exact absurd ⟨hi.1, hj.2⟩ h4
    · have := q4 hj; subst this; exact h i' j' (by omega) (by omega) h3 (by omega)
  · have := q2 hi; subst this
    by_cases hj : a ≤ j ∧ j < b
    · have := q3 hj; exact h i' j' h1 (by omega) (by omega) (by omega)
    · have := q4 hj; subst this; exact h i' j' h1 h2 h3 (by omega)
theorem NIn.done {a0 b0 a b : Nat} {d : List α} (h : NIn lt a0 b0 a b d) (hA : Asc lt a b d) : Asc lt a0 b0 d := by
  intro i j h1 h2 h3
  by_cases hc : a ≤ i ∧ j < b
  · exact hA i j hc.1 h2 hc.2
  · exact h i j h1 h2 h3 hc
end
end Go.Vs

namespace Go.Vs

abbrev Hit := Int × Int
def ltH (x y : Hit) : Bool := decide (x.2 < y.2 ∨ x.2 = y.2 ∧ x.1 < y.1)
theorem ltH_iff {x y : Hit} : ltH x y = true ↔ x.2 < y.2 ∨ x.2 = y.2 ∧ x.1 < y.1 := by simp [ltH]
theorem ltH_false {x y : Hit} : ltH x y = false ↔ ¬ (x.2 < y.2 ∨ x.2 = y.2 ∧ x.1 < y.1) := by simp [ltH]
theorem linH : Lin ltH (fun _ => True) where
  irrefl x _ := by rw [ltH_false]; omega
  trans x y z _ _ _ h1 h2 := by rw [ltH_iff] at *; omega
  total x y _ _ h := by
    rw [ltH_iff, ltH_iff]
    by_cases e : x.2 = y.2
    · have : x.1 ≠ y.1 := fun e2 => h (Prod.ext e2 e)
      omega
    · omega
end Go.Vs

namespace Go.Vs

def insH (x : Hit) : List Hit → List Hit
  | [] => [x]
  | y :: r => if ltH x y then x :: y :: r else y :: insH x r
def AscH (l : List Hit) : Prop := l.Pairwise fun x y => ltH y x = false
theorem insH_perm (x : Hit) (l : List Hit) : (insH x l).Perm (x :: l) := by
  induction l with
  | nil => exact List.Perm.refl _
  | cons y r ih =>
    unfold insH
    split
    · exact List.Perm.refl _
    · exact (List.Perm.cons y ih).trans (List.Perm.swap x y r)
theorem insH_asc {x : Hit} {l : List Hit} (h : AscH l) : AscH (insH x l) := by
  induction l with
  | nil => exact List.pairwise_singleton _ _
  | cons y r ih =>
    obtain ⟨h1, h2⟩ := List.pairwise_cons.1 h
    unfold insH
    split
    · rename_i hlt
      refine List.pairwise_cons.2 ⟨fun z hz => ?_, h⟩
      rcases List.mem_cons.1 hz with rfl | hz
      · exact linH.asymm trivial trivial hlt
      · exact linH.ntrans trivial trivial trivial (h1 z hz) (linH.asymm trivial trivial hlt)
    · rename_i hlt
      refine List.pairwise_cons.2 ⟨fun z hz => ?_, ih h2⟩
      rcases List.mem_cons.1 ((insH_perm x r).mem_iff.1 hz) with rfl | hz
      · simpa using hlt
      · exact h1 z hz
theorem ltH_antisymm {x y : Hit} (h1 : ltH x y = false) (h2 : ltH y x = false) : x = y := by
  rcases Classical.em (x = y) with h | h
  · exact h
  · rcases linH.total x y trivial trivial h with h' | h'
    · rw [h1] at h'; cases h'
    · rw [h2] at h'; cases h'
theorem asc_uniq {l m : List Hit} (hl : AscH l) (hm : AscH m) (h : l.Perm m) : l = m :=
  List.Perm.eq_of_pairwise (le := fun x y => ltH y x = false) (fun _ _ _ _ h1 h2 => ltH_antisymm h2 h1) hl hm h
def isort (l : List Hit) : List Hit := l.foldl (fun S x => insH x S) []
theorem isort_spec (l : List Hit) : AscH (isort l) ∧ (isort l).Perm l := by
  have key : ∀ (l S : List Hit), AscH S → AscH (l.foldl (fun S x => insH x S) S) ∧ (l.foldl (fun S x => insH x S) S).Perm (S ++ l) := by
    intro l
    induction l with
    | nil => intro S h; exact ⟨h, by simp⟩
    | cons x r ih =>
      intro S h
      obtain ⟨h1, h2⟩ := ih (insH x S) (insH_asc h)
      refine ⟨h1, h2.trans ?_⟩
      have := List.Perm.append_right r (insH_perm x S)
      exact this.trans (List.perm_middle.symm)
  exact key l [] List.Pairwise.nil
theorem isort_uniq {l m : List Hit} (hm : AscH m) (h : m.Perm l) : isort l = m := asc_uniq (isort_spec l).1 hm ((isort_spec l).2.trans h.symm)
def topH (k : Nat) (l : List Hit) : List Hit := (isort l).take k
theorem topH_sub (k : Nat) (l : List Hit) : ∀ x ∈ topH k l, x ∈ l := fun x hx => (isort_spec l).2.mem_iff.1 (List.mem_of_mem_take hx)

/-! ## What the heap keeps -/
/-! ## The searches -/
def hitsOf (l : List Item) (kind : Int) (at_ : List Int) : List Hit := l.map fun x => (x.1, dist kind x.2.1 at_)
theorem inRange_ok (n a b : Int) : M.spec_inRange n a b = some (decide (a ≤ n ∧ n ≤ b)) := by
  unfold M.spec_inRange
  by_cases h : a ≤ n <;> simp [h]
end Go.Vs

namespace Go.Vs

theorem hitsOf_mem {l : List Item} {kind : Int} {at_ : List Int} {h : Hit} : h ∈ hitsOf l kind at_ ↔ ∃ x ∈ l, h = (x.1, dist kind x.2.1 at_) := by
  unfold hitsOf
  rw [List.mem_map]
  constructor
  · rintro ⟨x, hx, rfl⟩; exact ⟨x, hx, rfl⟩
  · rintro ⟨x, hx, rfl⟩; exact ⟨x, hx, rfl⟩
theorem topH_take {j k : Nat} (h : j ≤ k) (l : List Hit) : topH j l = (topH k l).take j := by unfold topH; rw [List.take_take, Nat.min_eq_left h]
end Go.Vs

namespace Go.Vs

end Go.Vs

namespace Go.Vs

end Go.Vs

namespace Go.Vs

end Go.Vs

namespace Go.Vs

end Go.Vs

namespace Go.Vs

end Go.Vs

namespace Go.Vs

structure OkL (l : List Item) : Prop where
  len : l.length ≤ 16
  vec : ∀ x ∈ l, isVec x.2.1 = true
  keys : (l.map (·.1)).Nodup
theorem OkL.inj {l : List Item} (h : OkL l) : ∀ x y, x ∈ l → y ∈ l → x.1 = y.1 → x = y := fun x y hx hy e => by
  obtain ⟨i, hi, rfl⟩ := List.mem_iff_getElem.1 hx
  obtain ⟨j, hj, rfl⟩ := List.mem_iff_getElem.1 hy
  have hpw := List.pairwise_iff_getElem.1 (List.pairwise_map.1 h.keys)
  rcases Nat.lt_trichotomy i j with h | h | h
  · exact absurd e (hpw i j hi hj h)
  · subst h; rfl
  · exact absurd e.symm (hpw j i hj hi h)
theorem OkL.sub {l m : List Item} (h : OkL l) (hs : List.Sublist m l) : OkL m :=
  ⟨Nat.le_trans hs.length_le h.len, fun x hx => h.vec x (hs.subset hx), List.Nodup.sublist (hs.map _) h.keys⟩
theorem OkL.perm {l m : List Item} (h : OkL l) (hp : m.Perm l) : OkL m :=
  ⟨by rw [hp.length_eq]; exact h.len, fun x hx => h.vec x (hp.mem_iff.1 hx), (hp.map (·.1)).nodup_iff.2 h.keys⟩

end Go.Vs

namespace Go.Vs

abbrev Nod := Int × Int × Int × Int
def nodesT : Tr Item → Nat → List Nod
  | .nil, _ => []
  | .node x n l r, a => (x.1, n, (bif l.isNil then -1 else ((a + 1 : Nat) : Int)), (bif r.isNil then -1 else ((a + 1 + (nodesT l (a + 1)).length : Nat) : Int))) :: (nodesT l (a + 1) ++ nodesT r (a + 1 + (nodesT l (a + 1)).length))
def Tr.size : Tr Item → Nat
  | .nil => 0
  | .node _ _ l r => l.size + r.size + 1
theorem nodesT_len : ∀ (t : Tr Item) (a : Nat), (nodesT t a).length = t.size
  | .nil, _ => rfl
  | .node x n l r, a => by simp only [nodesT, List.length_cons, List.length_append, nodesT_len l, nodesT_len r, Tr.size]
end Go.Vs

namespace Go.Vs

end Go.Vs

namespace Go.Vs

end Go.Vs

namespace Go.Vs

end Go.Vs

namespace Go.Vs

def itemsT : Tr Item → List Item
  | .nil => []
  | .node x _ l r => x :: (itemsT l ++ itemsT r)
def Sub (L : List Nod) (t : Tr Item) (a : Nat) : Prop := ∃ pre post, L = pre ++ nodesT t a ++ post ∧ pre.length = a
theorem Sub.left {L : List Nod} {x : Item} {q : Int} {l r : Tr Item} {a : Nat} (h : Sub L (.node x q l r) a) : Sub L l (a + 1) := by
  obtain ⟨pre, post, rfl, rfl⟩ := h
  exact ⟨pre ++ (nodesT (.node x q l r) pre.length).take 1, nodesT r (pre.length + 1 + (nodesT l (pre.length + 1)).length) ++ post, by simp [nodesT], by simp [nodesT]⟩
theorem Sub.right {L : List Nod} {x : Item} {q : Int} {l r : Tr Item} {a : Nat} (h : Sub L (.node x q l r) a) : Sub L r (a + 1 + l.size) := by
  obtain ⟨pre, post, rfl, rfl⟩ := h
  exact ⟨pre ++ (nodesT (.node x q l r) pre.length).take 1 ++ nodesT l (pre.length + 1), post, by simp [nodesT, nodesT_len], by simp [nodesT, nodesT_len]; omega⟩
theorem Sub.get {L : List Nod} {x : Item} {q : Int} {l r : Tr Item} {a : Nat} (h : Sub L (.node x q l r) a) : ∃ hl : a < L.length, L[a] = (x.1, q, (bif l.isNil then -1 else ((a + 1 : Nat) : Int)), (bif r.isNil then -1 else ((a + 1 + l.size : Nat) : Int))) := by
  obtain ⟨pre, post, rfl, rfl⟩ := h
  exact ⟨by simp [nodesT], by simp [nodesT, nodesT_len]⟩
theorem Sub.gidx {L : List Nod} {x : Item} {q : Int} {l r : Tr Item} {a : Nat} (h : Sub L (.node x q l r) a) : Go.Vs.gidx L (a : Int) = some (x.1, q, (bif l.isNil then -1 else ((a + 1 : Nat) : Int)), (bif r.isNil then -1 else ((a + 1 + l.size : Nat) : Int))) := by
  obtain ⟨hl, e⟩ := h.get
  rw [gidx_nat hl, e]
theorem sub_self (t : Tr Item) : Sub (nodesT t 0) t 0 := ⟨[], [], by simp, rfl⟩

end Go.Vs

namespace Go.Vs

def hitV (kd : Int) (v : List Int) (x : Item) : Hit := (x.1, dist kd x.2.1 v)
def hitsV (kd : Int) (v : List Int) (l : List Item) : List Hit := l.map (hitV kd v)
def reachH (k : Nat) (V : List Hit) : Int := if (topH k V).length < k then 1000000 else ((topH k V).getD (k - 1) (0, 0)).2
/-! ## Lists with the same nearest ones -/
def SameT (k : Nat) (U V : List Hit) : Prop := topH k U = topH k V
theorem SameT.refl (k : Nat) (U : List Hit) : SameT k U U := rfl
theorem SameT.trans {k : Nat} {U V W : List Hit} (h : SameT k U V) (g : SameT k V W) : SameT k U W := Eq.trans h g
theorem SameT.symm {k : Nat} {U V : List Hit} (h : SameT k U V) : SameT k V U := Eq.symm h
theorem SameT.perm {k : Nat} {U V : List Hit} (h : U.Perm V) : SameT k U V := by
  show topH k U = topH k V
  unfold topH
  rw [isort_uniq (isort_spec V).1 ((isort_spec V).2.trans h.symm)]
theorem SameT.reach {k : Nat} {U V : List Hit} (h : SameT k U V) : reachH k U = reachH k V := by
  unfold reachH
  rw [h]
/-! ## Trees find the nearest -/
/-! ## At how many nodes they look -/
noncomputable def vis (kd : Int) (v : List Int) (k : Nat) : Tr Item → List Hit → Nat
  | .nil, _ => 0
  | .node x q l r, P =>
    if dist kd x.2.1 v ≤ q then
      vis kd v k l (P ++ [hitV kd v x]) + 1 + (if q - dist kd x.2.1 v ≤ reachH k (P ++ [hitV kd v x] ++ hitsV kd v (itemsT l)) then vis kd v k r (P ++ [hitV kd v x] ++ hitsV kd v (itemsT l)) else 0)
    else
      vis kd v k r (P ++ [hitV kd v x]) + 1 + (if dist kd x.2.1 v - q ≤ reachH k (P ++ [hitV kd v x] ++ hitsV kd v (itemsT r)) then vis kd v k l (P ++ [hitV kd v x] ++ hitsV kd v (itemsT r)) else 0)
end Go.Vs

namespace Go.Vs

/-! ## The program's search -/
/-! ## What is answered -/
end Go.Vs

namespace Go.Vs

/-! ## Exact laws -/
end Go.Vs

namespace Go.Vs

end Go.Vs

namespace Go.Vs

/-! ## The first of the least -/
def SmallC (cs : List (List Int)) : Prop := cs.length < 2000000 ∧ ∀ c ∈ cs, c.length < 2000000
/-! ## Drawn centres -/
def NearC (cs : List (List Int)) : Prop := cs.length ≤ 5 ∧ ∀ c ∈ cs, Near c
theorem NearC.small {cs : List (List Int)} (h : NearC cs) : SmallC cs := ⟨by have := h.1; omega, fun c hc => by have := (h.2 c hc).1; omega⟩
/-! ## Laws -/
theorem SmallC.sub {cs ds : List (List Int)} (h : SmallC cs) (hs : ds.Sublist cs) : SmallC ds := ⟨by have := hs.length_le; have := h.1; omega, fun c hc => h.2 c (hs.subset hc)⟩
/-! ## Items and their centres -/
/-! ## Spreads -/
end Go.Vs

namespace Go.Vs

section
variable {cmp : Int → Int → Option Int} {D : Nat → Int} {n : Nat}
end

end Go.Vs

namespace Go.Vs

end Go.Vs

namespace Go.Vs

/-! ## Settling -/
end Go.Vs

namespace Go.Vs

/-! ## What searches cost -/
/-! ## Exact laws -/
end Go.Vs

namespace Go.Vs

/-! ## All items are in a list -/
end Go.Vs

namespace Go.Vs

end Go.Vs

namespace Go.Vs

abbrev Book := List (List Int) × List (List Int)
def SmallB (b : Book) : Prop := SmallC b.1 ∧ SmallC b.2
end Go.Vs

namespace Go.Vs

def hd2 (u v : List Int) : Int := gap (u.getD 0 0) (v.getD 0 0) * gap (u.getD 0 0) (v.getD 0 0) + gap (u.getD 1 0) (v.getD 1 0) * gap (u.getD 1 0) (v.getD 1 0)
def hD (l : List (List Int)) (v : List Int) (j : Nat) : Int := hd2 (l.getD j []) v
end Go.Vs

namespace Go.Vs

end Go.Vs

namespace Go.Vs

end Go.Vs

namespace Go.Vs

end Go.Vs

namespace Go.Vs

end Go.Vs

namespace Go.Vs

def NearB (b : Book) : Prop := NearC b.1 ∧ NearC b.2
theorem NearB.small {b : Book} (h : NearB b) : SmallB b := ⟨h.1.small, h.2.small⟩
/-! ## Planes -/
def NearP (l : List (List Int)) : Prop := l.length ≤ 7 ∧ ∀ c ∈ l, Near c
theorem NearP.small {l : List (List Int)} (h : NearP l) : SmallC l := ⟨by have := h.1; omega, fun c hc => by have := (h.2 c hc).1; omega⟩
end Go.Vs

namespace Go.Vs

/-! ## Tables -/
/-! ## Vectors of codes -/
/-! ## Distances of codes -/
end Go.Vs

namespace Go.Vs

end Go.Vs

namespace Go.Vs

/-! ## Bits -/
end Go.Vs

namespace Go.Vs

/-! ## Opposite vectors -/
/-! ## A plane looks at itself -/
/-! ## Twice a vector -/
end Go.Vs

namespace Go.Vs

/-! ## Buckets -/
end Go.Vs

namespace Go.Vs

theorem topH_perm {k : Nat} {l m : List Hit} (h : l.Perm m) : topH k l = topH k m := by
  unfold topH
  rw [isort_uniq (isort_spec m).1 ((isort_spec m).2.trans h.symm)]
/-! ## Ranked again -/
/-! ## The nearest of a bucket -/
end Go.Vs

namespace Go.Vs

def others (l : List Item) (x : Item) : List Item := l.filter fun y => decide (y.1 ≠ x.1)
def nbH (l : List Item) (kind : Int) (many : Nat) (x : Item) : List Hit := topH many (hitsOf (others l x) kind x.2.1)
def nbs (l : List Item) (kind : Int) (many : Nat) (x : Item) : List Int := (nbH l kind many x).map (·.1)
theorem mem_others {l : List Item} {x y : Item} : y ∈ others l x ↔ y ∈ l ∧ y.1 ≠ x.1 := by unfold others; simp
theorem mem_nbs {l : List Item} {kind : Int} {many : Nat} {x : Item} {c : Int} (h : c ∈ nbs l kind many x) : ∃ y ∈ l, y.1 = c ∧ y.1 ≠ x.1 := by
  unfold nbs at h
  obtain ⟨t, ht, rfl⟩ := List.mem_map.1 h
  obtain ⟨y, hy, rfl⟩ := hitsOf_mem.1 (topH_sub _ _ t ht)
  obtain ⟨h1, h2⟩ := mem_others.1 hy
  exact ⟨y, h1, rfl, h2⟩
theorem nbs_take {l : List Item} {kind : Int} {j k : Nat} {x : Item} (h : j ≤ k) : nbs l kind j x = (nbs l kind k x).take j := by
  unfold nbs nbH; rw [topH_take h, List.map_take]
theorem nbs_more {l : List Item} {kind : Int} {j k : Nat} {x : Item} (h : j ≤ k) {c : Int} (hc : c ∈ nbs l kind j x) : c ∈ nbs l kind k x := by
  rw [nbs_take h] at hc; exact List.mem_of_mem_take hc
/-! ## Walks -/
end Go.Vs

namespace Go.Vs

/-! ## Walks -/
end Go.Vs

namespace Go.Vs

def Edge (l : List Item) (kind : Int) (many : Nat) (c d : Int) : Prop := ∃ x ∈ l, x.1 = c ∧ d ∈ nbs l kind many x
inductive Reach (l : List Item) (kind : Int) (many : Nat) (key : Int) : Int → Prop
  | base : Reach l kind many key key
  | step {c d : Int} : Reach l kind many key c → Edge l kind many c d → Reach l kind many key d
theorem Edge.more {l : List Item} {kind : Int} {j k : Nat} {c d : Int} (h : j ≤ k) (e : Edge l kind j c d) : Edge l kind k c d := by
  obtain ⟨x, hx, h1, h2⟩ := e; exact ⟨x, hx, h1, nbs_more h h2⟩
theorem Reach.more {l : List Item} {kind : Int} {j k : Nat} {key c : Int} (h : j ≤ k) (r : Reach l kind j key c) : Reach l kind k key c := by
  induction r with
  | base => exact .base
  | step _ e ih => exact .step ih (e.more h)
theorem Edge.mem {l : List Item} {kind : Int} {many : Nat} {c d : Int} (e : Edge l kind many c d) : ∃ y ∈ l, y.1 = d := by
  obtain ⟨x, _, _, h2⟩ := e
  obtain ⟨y, hy, h3, _⟩ := mem_nbs h2; exact ⟨y, hy, h3⟩
theorem Reach.mem {l : List Item} {kind : Int} {many : Nat} {key c : Int} (hk : ∃ y ∈ l, y.1 = key) (r : Reach l kind many key c) : ∃ y ∈ l, y.1 = c := by
  cases r with
  | base => exact hk
  | step _ e => exact e.mem
end Go.Vs

namespace Go.Vs

/-! ## Filters -/
/-! ## What is drawn -/
end Go.Vs

namespace Go.Vs

end Go.Vs

namespace Go.Vs

end Go.Vs

namespace Go.Vs

end Go.Vs

namespace Go.Vs

end Go.Vs

namespace Go.Vs

/-! ## Walks -/
end Go.Vs

namespace Go.Vs

theorem validKey_ok (k : Int) : M.impl_validKey k = some (decide (1 ≤ k ∧ k ≤ 99)) := by
  unfold M.impl_validKey
  by_cases h1 : 1 ≤ k
  · by_cases h2 : k ≤ 99 <;> simp [h1, h2]
  · simp [h1]
end Go.Vs

namespace Go.Vs

theorem nodup_of {l : List Hit} (h : (l.map (·.1)).Nodup) : l.Nodup := List.Pairwise.of_map (·.1) (fun a b h e => h (congrArg _ e)) h
end Go.Vs

namespace Go.Vs

def Bst (S : List Hit) (x : Hit) : Prop := x ∈ S ∧ ∀ y ∈ S, y.1 = x.1 → x.2 ≤ y.2
structure BL (S L : List Hit) : Prop where
  keys : (L.map (·.1)).Nodup
  mem : ∀ x, x ∈ L ↔ Bst S x
theorem BL.nodup {S L : List Hit} (h : BL S L) : L.Nodup := nodup_of h.keys
theorem BL.same {S S' L L' : List Hit} {k : Nat} (h : BL S L) (h' : BL S' L') (hs : ∀ x, x ∈ S ↔ x ∈ S') : topH k L = topH k L' := by
  refine topH_perm ((List.perm_ext_iff_of_nodup h.nodup h'.nodup).2 fun x => ?_)
  rw [h.mem, h'.mem]
  unfold Bst
  constructor
  · rintro ⟨h1, h2⟩; exact ⟨(hs x).1 h1, fun y hy => h2 y ((hs y).2 hy)⟩
  · rintro ⟨h1, h2⟩; exact ⟨(hs x).2 h1, fun y hy => h2 y ((hs y).1 hy)⟩
end Go.Vs

namespace Go.Vs

structure Frs (P s : List Hit) : Prop where
  sub : s.Sublist P
  keys : (s.map (·.1)).Nodup
  all : ∀ y ∈ P, ∃ z ∈ s, z.1 = y.1 ∧ z.2 ≤ y.2
theorem Frs.nil : Frs [] [] := ⟨List.Sublist.refl _, by simp, by simp⟩
end Go.Vs

namespace Go.Vs

end Go.Vs

namespace Go.Vs

end Go.Vs

namespace Go.Vs

end Go.Vs

namespace Go.Vs

end Go.Vs

namespace Go.Vs

end Go.Vs

namespace Go.Vs

end Go.Vs

namespace Go.Vs

end Go.Vs

namespace Go.Vs

abbrev Ent := Int × Item
def okEn (e : Ent) : Bool := if e.1 = 1 then isItem e.2 else decide (e.1 = 2) && (decide (1 ≤ e.2.1 ∧ e.2.1 ≤ 99) && (decide (e.2.2.1.length = 0) && decide (e.2.2.2 = 0)))
def okLg (log : List Ent) : Bool := log.all okEn && decide (log.length ≤ 32)
def SmallE (log : List Ent) : Prop := log.length ≤ 1048576 ∧ ∀ e ∈ log, e.2.2.1.length ≤ 1048576
theorem okLg_iff {log : List Ent} : okLg log = true ↔ (∀ e ∈ log, okEn e = true) ∧ log.length ≤ 32 := by unfold okLg; rw [Bool.and_eq_true, List.all_eq_true, decide_eq_true_eq]
theorem copy_ok2 {v : List Int} (h : v.length ≤ 1048576) : M.spec_copyInts v = some v := by
  unfold M.spec_copyInts
  rw [gapp_ok (by simp; omega)]; rfl
theorem copyItem_spec2 {x : Item} (h : x.2.1.length ≤ 1048576) : M.spec_copyItem (x.1, x.2.1, x.2.2) = some x := by
  unfold M.spec_copyItem; simp only [copy_ok2 h, Option.bind_some]
theorem specPutItem_ok2 {l : List Item} {x : Item} (h : SmallS l) (hx : x.2.1.length ≤ 1048576) : M.spec_PutItem l (x.1, x.2.1, x.2.2) = some (putItem l x) := by
  cases h2 : isItem x with
  | true => exact specPutItem_ok h (by have := isItem_len h2; omega)
  | false =>
    unfold M.spec_PutItem putItem
    simp only [h.specv, specItem_ok (x := x) (by omega), Option.bind_some]
    cases h1 : okStore l <;> simp [h2]
theorem specEn_ok {e : Ent} (h : e.2.2.1.length ≤ 1048576) : M.spec_validEntry (e.1, (e.2.1, e.2.2.1, e.2.2.2)) = some (okEn e) := by
  unfold M.spec_validEntry okEn
  by_cases h1 : e.1 = 1
  · have : (e.1 == 1) = true := by simpa using h1
    simp only [this, cond_true, h1, if_true]
    rw [specItem_ok (x := e.2) (by omega)]; rfl
  · have : (e.1 == 1) = false := by simpa using h1
    rw [if_neg h1]
    simp only [this, cond_false, inRange_ok, Option.bind_some]
    by_cases h2 : e.1 = 2
    · have e2 : (e.1 == 2) = true := by simpa using h2
      simp only [e2, cond_true, h2, decide_true, Bool.true_and]
      cases decide (1 ≤ e.2.1 ∧ e.2.1 ≤ 99) with
      | false => simp
      | true =>
        simp only [cond_true, Bool.true_and]
        by_cases h3 : e.2.2.1.length = 0
        · have : ((e.2.2.1.length : Int) == 0) = true := by simp [h3]
          simp only [this, cond_true, h3, decide_true, Bool.true_and]; rfl
        · have : ((e.2.2.1.length : Int) == 0) = false := beq_false_of_ne (by omega)
          simp only [this, cond_false, decide_eq_false h3, Bool.false_and]; rfl
    · have e2 : (e.1 == 2) = false := by simpa using h2
      simp only [e2, cond_false, decide_eq_false h2, Bool.false_and]
theorem specLg_ok {log : List Ent} (h : SmallE log) : M.spec_validLog log = some (okLg log) := by
  unfold M.spec_validLog okLg
  have hl := h.1
  rw [loop_all (xs := log) (P := okEn) (r := false) ?_ ?_]
  · cases log.all okEn with
    | true => simp [selim]; omega
    | false => simp [selim]
  · intro i hi
    have e1 : decide ((i : Int) < (log.length : Int)) = true := decide_eq_true (by omega)
    simp only [e1, cond_true, gidx_nat hi, Option.bind_some, specEn_ok (h.2 _ (List.getElem_mem hi)), w64_succ (i := i) (by omega)]
    cases okEn log[i] <;> simp
  · simp
theorem okLg_sub {a b : List Ent} (h : okLg a = true) (s : b.Sublist a) : okLg b = true := by
  obtain ⟨h1, h2⟩ := okLg_iff.1 h
  exact okLg_iff.2 ⟨fun x hx => h1 x (s.subset hx), Nat.le_trans s.length_le h2⟩
theorem specCopyS_ok {l : List Item} (h : okStore l = true) : M.spec_copyStore l = some l := by
  unfold M.spec_copyStore
  obtain ⟨hlen, hit, _⟩ := okStore_iff.1 h
  refine fold_bind (xs := l) (fun (s : List Item) i => (s, i)) (fun t x => t ++ [x]) (fun i t => t.length ≤ i) (fun t => t) (s0 := []) (by simp) ?_ ?_ ?_
  · intro t i hi ht
    have e1 : decide ((i : Int) < (l.length : Int)) = true := decide_eq_true (by omega)
    have h4 := isItem_len (hit _ (List.getElem_mem hi))
    simp only [e1, cond_true, gidx_nat hi, Option.bind_some, copyItem_spec2 (show l[i].2.1.length ≤ 1048576 by omega), w64_succ (i := i) (by omega)]
    rw [gapp_ok (by simp; omega)]
    exact ⟨rfl, by simp; omega⟩
  · intro t _; simp
  · intro _
    have := foldl_map (fun x : Item => x) l []
    simp only [List.map_id', List.nil_append] at this
    rw [this]
def apV (l : List Item) (e : Ent) : List Item × Bool := if e.1 = 1 then putItem l e.2 else dropItem l e.2.1
theorem specApply_ok {l : List Item} {e : Ent} (sl : SmallS l) (he : e.2.2.1.length ≤ 1048576) : M.spec_apply l (e.1, (e.2.1, e.2.2.1, e.2.2.2)) = some (apV l e) := by
  unfold M.spec_apply apV
  by_cases h1 : e.1 = 1
  · have : (e.1 == 1) = true := by simpa using h1
    simp only [this, cond_true, h1, if_true]
    rw [specPutItem_ok2 (x := e.2) sl he]; rfl
  · have : (e.1 == 1) = false := by simpa using h1
    rw [if_neg h1]
    simp only [this, cond_false, specDropItem_ok sl, Option.bind_some]
def repL (l : List Item) : List Ent → List Item × Nat
  | [] => (l, 0)
  | e :: es => if (apV l e).2 = true then ((repL (apV l e).1 es).1, (repL (apV l e).1 es).2 + 1) else (l, 0)
def repV (l : List Item) (log : List Ent) : List Item × Int := if okStore l = true ∧ okLg log = true then ((repL l log).1, ((repL l log).2 : Int)) else ([], -1)
theorem apV_ok {l : List Item} {e : Ent} (h : (apV l e).2 = true) : okStore (apV l e).1 = true := by
  unfold apV at h ⊢
  split at h
  · rename_i h1
    rw [if_pos h1]
    obtain ⟨_, _, _, e1, e2⟩ := putItem_some h
    rw [e1]; exact e2
  · rename_i h1
    rw [if_neg h1]
    obtain ⟨_, _, e1, e2⟩ := dropItem_some h
    rw [e1]; exact e2
theorem repL_ok : ∀ (log : List Ent) {l : List Item}, okStore l = true → okStore (repL l log).1 = true
  | [], l, h => h
  | e :: es, l, h => by
    unfold repL
    split
    · rename_i h1; exact repL_ok es (apV_ok h1)
    · exact h
theorem rep_loop {log : List Ent} (hs : SmallE log) : ∀ (m i : Nat) (l : List Item), i + m = log.length → okStore l = true →
    loopM (fun (s20 : (List (Int × (List Int) × Int)) × (Int)) => (bif decide (s20.2 < (log.length : Int)) then
      (gidx log s20.2).bind fun x25 =>
      (M.spec_apply s20.1 (x25.1, (x25.2.1, x25.2.2.1, x25.2.2.2))).bind fun r35 =>
      (bif !r35.2 then
      some (.inr (.inr (s20.1, s20.2)))
     else
      some (.inl (r35.1, w64 (s20.2 + 1))))
     else
      some (.inr (.inl s20.1)))) (l, (i : Int)) = some (if (repL l (log.drop i)).2 = m then Sum.inl (repL l (log.drop i)).1 else Sum.inr ((repL l (log.drop i)).1, ((i + (repL l (log.drop i)).2 : Nat) : Int))) := by
  intro m
  induction m with
  | zero =>
    intro i l hi ho
    have : i = log.length := by omega
    subst this
    rw [loopM_eq]
    simp [selim, repL]
  | succ m ih =>
    intro i l hi ho
    have hlt : i < log.length := by omega
    have e1 : decide ((i : Int) < (log.length : Int)) = true := decide_eq_true (by omega)
    have hl := hs.1
    have sl := (nearS_of ho).small
    rw [loopM_eq, List.drop_eq_getElem_cons hlt]
    simp only [e1, cond_true, gidx_nat hlt, Option.bind_some, specApply_ok sl (hs.2 _ (List.getElem_mem hlt)), w64_succ (i := i) (by omega)]
    cases ha : (apV l log[i]).2 with
    | true =>
      have := ih (i + 1) (apV l log[i]).1 (by omega) (apV_ok ha)
      simp only [Bool.not_true, cond_false, Option.bind_some, selim, repL, ha, if_true]
      rw [this]
      by_cases hq : (repL (apV l log[i]).1 (log.drop (i + 1))).2 = m
      · rw [if_pos hq, if_pos (by omega)]
      · rw [if_neg hq, if_neg (by omega)]
        congr 3; omega
    | false =>
      simp only [Bool.not_false, cond_true, Option.bind_some, selim, repL, ha, Bool.false_eq_true, if_false]
      rw [if_neg (by omega)]; rfl
theorem specReplay_ok {l : List Item} {log : List Ent} (sl : SmallS l) (hs : SmallE log) : M.spec_ReplayLog l log = some (repV l log) := by
  unfold M.spec_ReplayLog repV
  simp only [sl.specv, specLg_ok hs, Option.bind_some]
  cases ho : okStore l with
  | false => simp
  | true =>
    cases hg : okLg log with
    | false => simp
    | true =>
      simp only [Bool.not_true, cond_false, Option.bind_some, specCopyS_ok ho, and_self, if_true]
      have := rep_loop hs log.length 0 l (by omega) ho
      simp only [Int.natCast_zero, List.drop_zero, Nat.zero_add] at this
      rw [this]
      by_cases hq : (repL l log).2 = log.length
      · rw [if_pos hq, hq]; rfl
      · rw [if_neg hq]; rfl
theorem repL_t {l : List Item} {e : Ent} {es : List Ent} (h : (apV l e).2 = true) : repL l (e :: es) = ((repL (apV l e).1 es).1, (repL (apV l e).1 es).2 + 1) := by
  rw [repL, if_pos h]
theorem repL_f {l : List Item} {e : Ent} {es : List Ent} (h : ¬ (apV l e).2 = true) : repL l (e :: es) = (l, 0) := by
  rw [repL, if_neg h]
theorem repL_take : ∀ (log : List Ent) (l : List Item) (n : Nat), n ≤ (repL l log).2 → (repL l (log.take n)).2 = n
  | log, l, 0, _ => by simp [repL]
  | [], l, n + 1, h => by simp [repL] at h
  | e :: es, l, n + 1, h => by
    rw [List.take_succ_cons]
    unfold repL at h ⊢
    split at h
    · rename_i h1
      rw [if_pos h1]
      simp only [Nat.add_le_add_iff_right] at h
      simp only [repL_take es _ n h]
    · omega
end Go.Vs

namespace Go.Vs

end Go.Vs

namespace Go.Vs

abbrev Chg := If2 Int Item
def zChg : Chg := If2.mk 0 0 (0, [], 0)
def chV (e : Ent) : Chg := if e.1 = 1 then If2.mk 2 0 e.2 else If2.mk 1 e.2.1 (0, [], 0)
theorem onlyKey_ok (x : Item) : M.impl_onlyKey (x.1, x.2.1, x.2.2) = some (decide (1 ≤ x.1 ∧ x.1 ≤ 99) && (decide (x.2.1.length = 0) && decide (x.2.2 = 0))) := by
  unfold M.impl_onlyKey
  simp only [validKey_ok, Option.bind_some]
  cases decide (1 ≤ x.1 ∧ x.1 ≤ 99) with
  | false => simp
  | true =>
    simp only [cond_true, Bool.true_and]
    by_cases h3 : x.2.1.length = 0
    · have : ((x.2.1.length : Int) == 0) = true := by simp [h3]
      simp only [this, cond_true, h3, decide_true, Bool.true_and]; rfl
    · have : ((x.2.1.length : Int) == 0) = false := beq_false_of_ne (by omega)
      simp only [this, cond_false, decide_eq_false h3, Bool.false_and]
theorem implCh_ok {e : Ent} (h : e.2.2.1.length ≤ 1048576) : M.impl_changeOf (e.1, (e.2.1, e.2.2.1, e.2.2.2)) = some (if okEn e = true then (chV e, true) else (zChg, false)) := by
  unfold M.impl_changeOf okEn chV zChg
  by_cases h1 : e.1 = 1
  · have : (e.1 == 1) = true := by simpa using h1
    simp only [this, cond_true, h1, if_true]
    rw [implItem_ok (x := e.2) (by omega)]
    cases isItem e.2 <;> simp
  · have : (e.1 == 1) = false := by simpa using h1
    simp only [this, cond_false, h1, if_false, Option.bind_some]
    by_cases h2 : e.1 = 2
    · have e2 : (e.1 == 2) = true := by simpa using h2
      simp only [e2, cond_true, h2, decide_true, Bool.true_and]
      rw [onlyKey_ok e.2]
      cases decide (1 ≤ e.2.1 ∧ e.2.1 ≤ 99) && (decide (e.2.2.1.length = 0) && decide (e.2.2.2 = 0)) <;> simp
    · have e2 : (e.1 == 2) = false := by simpa using h2
      simp [e2, h2]
theorem chs_loop {log : List Ent} (hs : SmallE log) (h32 : log.length ≤ 32) : ∀ (m i : Nat) (pre : List Chg), i + m = log.length → pre.length = i →
    loopM (fun (s9 : (List (If2 Int ((Int × (List Int) × Int)))) × (Int)) => (bif decide (s9.2 < (log.length : Int)) then
  (gidx log s9.2).bind fun x14 =>
  (M.impl_changeOf (x14.1, (x14.2.1, x14.2.2.1, x14.2.2.2))).bind fun r28 =>
  (bif !r28.2 then
  some (.inr (.inr ([], false)))
 else
  (gidx s9.1 s9.2).bind fun x35 =>
  some (.inl ((s9.1.set s9.2.toNat (If2.mk r28.1.1 r28.1.2.1 (r28.1.2.2.1, r28.1.2.2.2.1, r28.1.2.2.2.2))), w64 (s9.2 + 1))))
 else
  some (.inr (.inl s9.1)))) (pre ++ List.replicate m zChg, (i : Int)) = some (if (log.drop i).all okEn = true then (Sum.inl (pre ++ (log.drop i).map chV) : List Chg ⊕ (List Chg × Bool)) else Sum.inr ([], false)) := by
  intro m
  induction m with
  | zero =>
    intro i pre hi hp
    have : i = log.length := by omega
    subst this
    rw [loopM_eq]
    simp [selim]
  | succ m ih =>
    intro i pre hi hp
    have hlt : i < log.length := by omega
    have e1 : decide ((i : Int) < (log.length : Int)) = true := decide_eq_true (by omega)
    have hl := hs.1
    have hc := implCh_ok (hs.2 _ (List.getElem_mem hlt))
    have hd : log.drop i = log[i] :: log.drop (i + 1) := List.drop_eq_getElem_cons hlt
    rw [loopM_eq]
    simp only [e1, cond_true, gidx_nat hlt, Option.bind_some, hc, w64_succ (i := i) (by omega)]
    cases hk : okEn log[i] with
    | false =>
      rw [hd, List.all_cons, hk]
      simp [selim]
    | true =>
      have hg : gidx (pre ++ List.replicate (m + 1) zChg) (i : Int) = some zChg := by
        rw [gidx_nat (show i < (pre ++ List.replicate (m + 1) zChg).length by simp; omega)]
        congr 1
        rw [List.getElem_append_right (by omega)]
        simp
      have hset : (pre ++ List.replicate (m + 1) zChg).set i (chV log[i]) = (pre ++ [chV log[i]]) ++ List.replicate m zChg := by
        rw [List.set_append_right (h := by omega), hp, Nat.sub_self, List.replicate_succ]; simp
      have := ih (i + 1) (pre ++ [chV log[i]]) (by omega) (by simp [hp])
      simp only [if_true, Bool.not_true, cond_false, hg, Option.bind_some, selim, Int.toNat_natCast]
      rw [show (If2.mk (chV log[i]).1 (chV log[i]).2.1 ((chV log[i]).2.2.1, (chV log[i]).2.2.2.1, (chV log[i]).2.2.2.2) : Chg) = chV log[i] from rfl, hset, this, hd]
      simp only [List.all_cons, hk, Bool.true_and, List.map_cons, List.append_assoc, List.singleton_append]
theorem implChs_ok {log : List Ent} (hs : SmallE log) : M.impl_changesOf log = some (if okLg log = true then (log.map chV, true) else ([], false)) := by
  unfold M.impl_changesOf okLg
  by_cases h32 : log.length ≤ 32
  · have e1 : decide ((32 : Int) < (log.length : Int)) = false := decide_eq_false (by omega)
    simp only [e1, cond_false, decide_eq_true h32, Bool.and_true]
    rw [gmake_ok (by omega) (by omega)]
    simp only [Option.bind_some, Int.toNat_natCast]
    have := chs_loop hs h32 log.length 0 [] (by omega) rfl
    simp only [List.nil_append, Int.natCast_zero, List.drop_zero] at this
    rw [show (If2.mk 0 0 (0, [], 0) : Chg) = zChg from rfl, this]
    cases log.all okEn <;> simp [selim]
  · have e1 : decide ((32 : Int) < (log.length : Int)) = true := decide_eq_true (by omega)
    simp [e1, decide_eq_false h32]
theorem apCh_ok {l : List Item} {e : Ent} (sl : SmallS l) (he : e.2.2.1.length ≤ 1048576) : (bif (chV e).1 == 1 then
  (M.impl_dropChange_apply (chV e).2.1 l).bind fun r49 =>
  some (r49.1, r49.2)
 else
  (bif (chV e).1 == 2 then
  (M.impl_putChange_apply ((chV e).2.2.1, (chV e).2.2.2.1, (chV e).2.2.2.2) l).bind fun r58 =>
  some (r58.1, r58.2)
 else
  none)) = some (apV l e) := by
  unfold chV apV M.impl_dropChange_apply M.impl_putChange_apply
  by_cases h1 : e.1 = 1
  · simp only [h1, if_true]
    show Option.bind (Option.bind (M.impl_PutItem l (e.2.1, e.2.2.1, e.2.2.2)) _) _ = _
    rw [implPutItem_ok (x := e.2) sl he]; rfl
  · simp only [h1, if_false]
    show Option.bind (Option.bind (M.impl_DropItem l e.2.1) _) _ = _
    rw [implDropItem_ok sl]; rfl
theorem rep_loopG {A : Chg → List Item → Option (List Item × Bool)} {log : List Ent} (hs : SmallE log) (hA : ∀ (l : List Item) (e : Ent), SmallS l → e.2.2.1.length ≤ 1048576 → A (chV e) l = some (apV l e)) : ∀ (m i : Nat) (l : List Item), i + m = log.length → okStore l = true →
    loopM (fun (s27 : (List (Int × (List Int) × Int)) × (Int)) => (bif decide (s27.2 < ((log.map chV).length : Int)) then
  (gidx (log.map chV) s27.2).bind fun x34 =>
  Option.bind (A x34 s27.1) fun o45 =>
  (bif !o45.2 then
  some (.inr (.inr (s27.1, s27.2)))
 else
  some (.inl (o45.1, w64 (s27.2 + 1))))
 else
  some (.inr (.inl s27.1)))) (l, (i : Int)) = some (if (repL l (log.drop i)).2 = m then Sum.inl (repL l (log.drop i)).1 else Sum.inr ((repL l (log.drop i)).1, ((i + (repL l (log.drop i)).2 : Nat) : Int))) := by
  intro m
  induction m with
  | zero =>
    intro i l hi ho
    have : i = log.length := by omega
    subst this
    rw [loopM_eq]
    simp [selim, repL]
  | succ m ih =>
    intro i l hi ho
    have hlt : i < log.length := by omega
    have hlt' : i < (log.map chV).length := by simpa using hlt
    have e1 : decide ((i : Int) < ((log.map chV).length : Int)) = true := decide_eq_true (by simp; omega)
    have hl := hs.1
    have sl := (nearS_of ho).small
    rw [loopM_eq, List.drop_eq_getElem_cons hlt]
    simp only [e1, cond_true, gidx_nat hlt', Option.bind_some, List.getElem_map, hA l log[i] sl (hs.2 _ (List.getElem_mem hlt)), w64_succ (i := i) (by omega)]
    cases ha : (apV l log[i]).2 with
    | true =>
      have := ih (i + 1) (apV l log[i]).1 (by omega) (apV_ok ha)
      simp only [Bool.not_true, cond_false, Option.bind_some, selim, repL, ha, if_true]
      rw [this]
      by_cases hq : (repL (apV l log[i]).1 (log.drop (i + 1))).2 = m
      · rw [if_pos hq, if_pos (by omega)]
      · rw [if_neg hq, if_neg (by omega)]
        congr 3; omega
    | false =>
      simp only [Bool.not_false, cond_true, Option.bind_some, selim, repL, ha, Bool.false_eq_true, if_false]
      rw [if_neg (by omega)]; rfl
theorem implReplay_ok {l : List Item} {log : List Ent} (sl : SmallS l) (hs : SmallE log) : M.impl_ReplayLog l log = some (repV l log) := by
  unfold M.impl_ReplayLog repV
  simp only [implChs_ok hs, sl.impl, Option.bind_some]
  cases hg : okLg log with
  | false => simp
  | true =>
    cases ho : okStore l with
    | false => simp
    | true =>
      simp only [Bool.not_true, cond_false, Option.bind_some, copyItems_ok sl, and_self, if_true]
      have := rep_loopG (A := fun c l => (bif c.1 == 1 then
  (M.impl_dropChange_apply c.2.1 l).bind fun r49 =>
  some (r49.1, r49.2)
 else
  (bif c.1 == 2 then
  (M.impl_putChange_apply (c.2.2.1, c.2.2.2.1, c.2.2.2.2) l).bind fun r58 =>
  some (r58.1, r58.2)
 else
  none))) hs (fun l e sl he => apCh_ok sl he) log.length 0 l (by omega) ho
      simp only [Int.natCast_zero, List.drop_zero, Nat.zero_add] at this
      rw [this]
      by_cases hq : (repL l log).2 = log.length
      · rw [if_pos hq, hq]; simp [selim]
      · rw [if_neg hq]; rfl
end Go.Vs

namespace Go.Vs

def NearE (log : List Ent) : Prop := log.length ≤ 34 ∧ ∀ e ∈ log, e.2.2.1.length ≤ 5
theorem NearE.small {log : List Ent} (h : NearE log) : SmallE log := ⟨by have := h.1; omega, fun e he => by have := h.2 e he; omega⟩
theorem someEn_ok {k : Nat} (hk : k ≤ 300000) {r : List UInt8 × Int} (hr : Good k r) : ∃ (e : Ent) (r' : List UInt8 × Int), M.spec_someEntry (r.1, r.2) = some ((e.1, (e.2.1, e.2.2.1, e.2.2.2)), (r'.1, r'.2)) ∧ Good (k + 20) r' ∧ e.2.2.1.length ≤ 5 := by
  obtain ⟨c, ⟨a1, a2⟩, h1, g1, _⟩ := pick_ok (by omega) hr 3
  unfold M.spec_someEntry
  simp only [h1, Option.bind_some]
  by_cases c0 : c = 0
  · obtain ⟨x, ⟨b1, b2⟩, h2, g2, _⟩ := pick_ok (by omega) g1 12
    exact ⟨(2, (w64 (1 + x), [], 0)), (b1, b2), by simp only [c0, beq_self_eq_true, cond_true, h2, Option.bind_some], g2.mono (by omega), by simp⟩
  · have e0 : (c == 0) = false := beq_false_of_ne c0
    obtain ⟨y, ⟨d1, d2⟩, h3, g3, hy, _⟩ := item_ok (by omega) g1
    obtain ⟨x, ⟨b1, b2⟩, h2, g2, _⟩ := pick_ok (by omega) g3 12
    have := isItem_len hy
    exact ⟨(1, (w64 (1 + x), y.2.1, y.2.2)), (b1, b2), by simp only [e0, cond_false, h3, h2, Option.bind_some], g2.mono (by omega), by simp only; omega⟩
theorem anyEn_ok {k : Nat} (hk : k ≤ 200000) {r : List UInt8 × Int} (hr : Good k r) : ∃ (e : Ent) (r' : List UInt8 × Int), M.spec_anyEntry (r.1, r.2) = some ((e.1, (e.2.1, e.2.2.1, e.2.2.2)), (r'.1, r'.2)) ∧ Good (k + 100) r' ∧ e.2.2.1.length ≤ 5 := by
  obtain ⟨e, ⟨a1, a2⟩, h1, g1, he⟩ := someEn_ok (by omega) hr
  obtain ⟨c, ⟨b1, b2⟩, h2, g2, _⟩ := pick_ok (by omega) g1 16
  unfold M.spec_anyEntry
  simp only [h1, h2, Option.bind_some]
  by_cases c0 : c = 0
  · obtain ⟨x, ⟨d1, d2⟩, h3, g3, _⟩ := one_ok (by omega) g2 (list := [0, 3, 1, 2]) (by simp)
    exact ⟨(x, e.2), (d1, d2), by simp only [c0, beq_self_eq_true, cond_true, h3, Option.bind_some], g3.mono (by omega), he⟩
  have e0 : (c == 0) = false := beq_false_of_ne c0
  by_cases c1 : c = 1
  · obtain ⟨x, ⟨d1, d2⟩, h3, g3, hx⟩ := anyItem_ok (by omega) g2
    have : ((1 : Int) == 0) = false := rfl
    exact ⟨(e.1, x), (d1, d2), by simp only [c1, this, cond_false, beq_self_eq_true, cond_true, h3, Option.bind_some], g3.mono (by omega), hx.2.1.1⟩
  · have e1 : (c == 1) = false := beq_false_of_ne c1
    exact ⟨e, (b1, b2), by simp only [e0, e1, cond_false, Option.bind_some], g2.mono (by omega), he⟩
end Go.Vs

namespace Go.Vs

theorem repV_of {l : List Item} {log : List Ent} (h1 : okStore l = true) (h2 : okLg log = true) : repV l log = ((repL l log).1, ((repL l log).2 : Int)) := if_pos ⟨h1, h2⟩
end Go.Vs

namespace Go.Vs

end Go.Vs

namespace Go.Vs

def atK (l : List Item) (k : Int) : Option Item := l.find? fun x => x.1 == k
theorem atK_iff {l : List Item} (hp : l.Pairwise (fun x y => x.1 < y.1)) {k : Int} {y : Item} : atK l k = some y ↔ y ∈ l ∧ y.1 = k := by
  constructor
  · intro h
    exact ⟨List.mem_of_find?_eq_some h, by simpa using List.find?_some h⟩
  · rintro ⟨h, rfl⟩
    exact find_key0 hp h
theorem getItem_at {l : List Item} (h : okStore l = true) (k : Int) : getItem l k = match atK l k with | some x => (x, true) | none => (zItem, false) := by
  unfold getItem; rw [if_pos h]; rfl
def stepK (k : Int) (o : Option Item) (e : Ent) : Option Item := if e.2.1 = k then (if e.1 = 1 then some e.2 else none) else o
def finK (k : Int) (o : Option Item) (log : List Ent) : Option Item := log.foldl (stepK k) o
theorem apV_at {l : List Item} {e : Ent} (h : (apV l e).2 = true) (k : Int) : atK (apV l e).1 k = stepK k (atK l k) e := by
  have ho := apV_ok h
  unfold apV at h ho ⊢
  unfold stepK
  by_cases h1 : e.1 = 1
  · rw [if_pos h1] at h ho ⊢
    obtain ⟨a1, a2, _, e1, e2⟩ := putItem_some h
    rw [e1]
    have hp := (okStore_iff.1 a1).2.2
    have hq := (okStore_iff.1 e2).2.2
    refine Option.ext fun y => ?_
    rw [show atK (putS l e.2, true).1 k = atK (putS l e.2) k from rfl, atK_iff hq, mem_putS]
    by_cases hk : e.2.1 = k
    · rw [if_pos hk, if_pos h1]
      constructor
      · rintro ⟨rfl | ⟨_, h3⟩, h2⟩
        · rfl
        · exact absurd (h2.trans hk.symm) h3
      · intro hy
        obtain rfl := Option.some.inj hy
        exact ⟨.inl rfl, hk⟩
    · rw [if_neg hk, atK_iff hp]
      constructor
      · rintro ⟨rfl | ⟨h3, _⟩, h2⟩
        · exact absurd h2 hk
        · exact ⟨h3, h2⟩
      · rintro ⟨h3, h2⟩
        exact ⟨.inr ⟨h3, fun q => hk (q.symm.trans h2)⟩, h2⟩
  · rw [if_neg h1] at h ho ⊢
    obtain ⟨a1, _, e1, e2⟩ := dropItem_some h
    rw [e1]
    have hp := (okStore_iff.1 a1).2.2
    have hq := (okStore_iff.1 e2).2.2
    refine Option.ext fun y => ?_
    rw [show atK (dropS l e.2.1, true).1 k = atK (dropS l e.2.1) k from rfl, atK_iff hq, mem_dropS]
    by_cases hk : e.2.1 = k
    · rw [if_pos hk, if_neg h1]
      constructor
      · rintro ⟨⟨_, h3⟩, h2⟩; exact absurd (h2.trans hk.symm) h3
      · intro hy; cases hy
    · rw [if_neg hk, atK_iff hp]
      constructor
      · rintro ⟨⟨h3, _⟩, h2⟩; exact ⟨h3, h2⟩
      · rintro ⟨h3, h2⟩; exact ⟨⟨h3, fun q => hk (q.symm.trans h2)⟩, h2⟩
theorem repL_at : ∀ (log : List Ent) (l : List Item), (repL l log).2 = log.length → ∀ k, atK (repL l log).1 k = finK k (atK l k) log
  | [], l, _, k => rfl
  | e :: es, l, h, k => by
    by_cases h1 : (apV l e).2 = true
    · have e1 := repL_t (es := es) h1
      rw [e1] at h ⊢
      simp only [List.length_cons, Nat.add_right_cancel_iff] at h
      have := repL_at es (apV l e).1 h k
      show atK (repL (apV l e).1 es).1 k = _
      rw [this, apV_at h1]; rfl
    · rw [repL_f h1] at h; simp at h
theorem finK_append {k : Int} {o : Option Item} {a b : List Ent} : finK k o (a ++ b) = finK k (finK k o a) b := List.foldl_append ..
/-! ## Short logs -/
end Go.Vs

namespace Go.Vs

end Go.Vs

namespace Go.Vs

theorem equalEntries_ok {l m : List Ent} (h : SmallE l) : M.laws_equalEntries l m = some (decide (l = m)) := by
  unfold M.laws_equalEntries
  by_cases hl : l.length = m.length
  · have e0 : ((l.length : Int) != (m.length : Int)) = false := by simp [hl]
    simp only [e0, cond_false]
    have hz : (l.zip m).length = l.length := by rw [List.length_zip]; omega
    rw [loop_all (xs := l.zip m) (P := fun x => decide (x.1 = x.2)) (r := false)]
    · have : (l.zip m).all (fun x => decide (x.1 = x.2)) = decide (l = m) := by
        clear hz h e0
        induction l generalizing m with
        | nil => cases m with
          | nil => rfl
          | cons => simp at hl
        | cons x l ih => cases m with
          | nil => simp at hl
          | cons y m =>
            simp only [List.length_cons, Nat.add_right_cancel_iff] at hl
            rw [List.zip_cons_cons, List.all_cons, ih hl]
            by_cases h1 : x = y <;> by_cases h2 : l = m <;> simp [h1, h2]
      rw [this]
      by_cases h1 : l = m <;> simp [h1, selim]
    · intro i hi
      have hi1 : i < l.length := by omega
      have hi2 : i < m.length := by omega
      have hL := h.1
      have e1 : decide ((i : Int) < (l.length : Int)) = true := decide_eq_true (by omega)
      have e2 : w64 ((i : Int) + 1) = (i : Int) + 1 := w64_id (by omega) (by omega)
      have hle := h.2 _ (List.getElem_mem hi1)
      simp only [e1, cond_true, gidx_nat hi1, gidx_nat hi2, Option.bind_some, e2, List.getElem_zip]
      have he := equalItem_ok (x := l[i].2) (y := m[i].2) (by omega)
      by_cases hk : l[i].1 = m[i].1
      · have hk' : (l[i].1 != m[i].1) = false := by simp [hk]
        simp only [hk', cond_false, he, Option.bind_some]
        by_cases hxy : l[i].2 = m[i].2
        · have : l[i] = m[i] := Prod.ext hk hxy
          simp [this]
        · have : ¬ l[i] = m[i] := fun q => hxy (by rw [q])
          simp [hxy, this]
      · have hk' : (l[i].1 != m[i].1) = true := by simp [hk]
        have : ¬ l[i] = m[i] := fun q => hk (by rw [q])
        simp [hk', this]
    · simp [hz]
  · have e0 : ((l.length : Int) != (m.length : Int)) = true := by simp; omega
    have : l ≠ m := fun h => hl (by rw [h])
    simp [e0, this]
theorem SmallE.sub {a b : List Ent} (h : SmallE b) (s : a.Sublist b) : SmallE a := ⟨by have := s.length_le; have := h.1; omega, fun e he => h.2 e (s.subset he)⟩
end Go.Vs

namespace Go.Vs

/-! ## What such a log does -/
end Go.Vs

namespace Go.Vs

end Go.Vs

namespace Go.Vs

abbrev Hist := List Ent × List Int
def okTimes (ts : List Int) : Bool := ts.all (fun t => decide (1 ≤ t ∧ t ≤ 1000)) && decide (ts.Pairwise (· ≤ ·))
theorem okTimes_iff {ts : List Int} : okTimes ts = true ↔ (∀ t ∈ ts, 1 ≤ t ∧ t ≤ 1000) ∧ ts.Pairwise (· ≤ ·) := by simp [okTimes]
def okHi (h : Hist) : Bool := okLg h.1 && (decide (h.2.length = h.1.length) && (okTimes h.2 && decide ((repL [] h.1).2 = h.1.length)))
theorem okHi_iff {h : Hist} : okHi h = true ↔ okLg h.1 = true ∧ h.2.length = h.1.length ∧ okTimes h.2 = true ∧ (repL [] h.1).2 = h.1.length := by simp [okHi]
def SmallH (h : Hist) : Prop := SmallE h.1 ∧ h.2.length ≤ 1048576
theorem okLg_small {log : List Ent} (h : okLg log = true) : SmallE log := by
  obtain ⟨h1, h2⟩ := okLg_iff.1 h
  refine ⟨by omega, fun e he => ?_⟩
  have := h1 e he
  unfold okEn at this
  split at this
  · have := isItem_len this; omega
  · simp only [Bool.and_eq_true, decide_eq_true_eq] at this
    omega
theorem okHi_small {h : Hist} (ok : okHi h = true) : SmallH h := by
  obtain ⟨h1, h2, _, _⟩ := okHi_iff.1 ok
  have := (okLg_iff.1 h1).2
  exact ⟨okLg_small h1, by omega⟩
theorem step_pairwise : ∀ (ts : List Int), (∀ i (h : i + 1 < ts.length), ts[i] ≤ ts[i + 1]) → ts.Pairwise (· ≤ ·)
  | [], _ => List.Pairwise.nil
  | [t], _ => List.pairwise_singleton _ _
  | t :: u :: ts, h => by
    have ih := step_pairwise (u :: ts) fun i hi => by
      have := h (i + 1) (by simp at hi ⊢; omega)
      simpa using this
    have h0 : t ≤ u := by simpa using h 0 (by simp)
    refine List.pairwise_cons.2 ⟨fun x hx => ?_, ih⟩
    rcases List.mem_cons.1 hx with rfl | hx
    · exact h0
    · have := (List.pairwise_cons.1 ih).1 x hx; omega
theorem nil_small : SmallS ([] : List Item) := ⟨by simp, by simp⟩
theorem specvHi_ok {h : Hist} (s : SmallH h) : M.spec_validHistory (h.1, h.2) = some (okHi h) := by
  unfold M.spec_validHistory okHi
  simp only [specLg_ok s.1, Option.bind_some]
  cases hg : okLg h.1 with
  | false => simp
  | true =>
    by_cases hl : h.2.length = h.1.length
    rotate_left
    · have : ((h.2.length : Int) != (h.1.length : Int)) = true := by simp; omega
      simp [hl, this]
    have hl' : ((h.2.length : Int) != (h.1.length : Int)) = false := by simp [hl]
    have hs2 := s.2
    simp only [Bool.not_true, cond_false, hl', Option.bind_some, decide_eq_true hl, Bool.true_and]
    rw [loop_all (xs := List.range h.2.length) (P := fun i => decide (1 ≤ h.2.getD i 0 ∧ h.2.getD i 0 ≤ 1000) && !(decide (0 < i) && decide (h.2.getD i 0 < h.2.getD (i - 1) 0))) (r := false)]
    · have hP : ((List.range h.2.length).all fun i => decide (1 ≤ h.2.getD i 0 ∧ h.2.getD i 0 ≤ 1000) && !(decide (0 < i) && decide (h.2.getD i 0 < h.2.getD (i - 1) 0))) = okTimes h.2 := by
        rw [Bool.eq_iff_iff, List.all_eq_true, okTimes_iff]
        have gd : ∀ i (hi : i < h.2.length), h.2.getD i 0 = h.2[i] := fun i hi => by simp [List.getD, hi]
        constructor
        · intro hall
          refine ⟨fun t ht => ?_, step_pairwise _ fun i hi => ?_⟩
          · obtain ⟨i, hi, rfl⟩ := List.getElem_of_mem ht
            have := hall i (by simp [hi])
            simp only [Bool.and_eq_true, decide_eq_true_eq, gd i hi] at this
            exact this.1
          · have := hall (i + 1) (by simp [hi])
            simp only [Bool.and_eq_true, gd (i + 1) hi, Nat.add_sub_cancel, gd i (by omega)] at this
            have := this.2
            simp at this
            omega
        · rintro ⟨h1, h2⟩ i hi
          have hi' : i < h.2.length := by simpa using hi
          simp only [gd i hi', Bool.and_eq_true, decide_eq_true_eq]
          refine ⟨h1 _ (List.getElem_mem hi'), ?_⟩
          by_cases h0 : 0 < i
          · have := List.pairwise_iff_getElem.1 h2 (i - 1) i (by omega) hi' (by omega)
            rw [gd (i - 1) (by omega)]
            have hn : ¬ h.2[i] < h.2[i - 1] := by omega
            simp [hn]
          · simp [h0]
      rw [hP]
      cases okTimes h.2 with
      | false => simp [selim]
      | true =>
        simp only [if_true, selim, Option.bind_some, specReplay_ok nil_small s.1, repV_of okStore_nil hg, Bool.true_and]
        congr 1
        rw [Bool.eq_iff_iff]; simp; omega
    · intro i hi
      have hi' : i < h.2.length := by simpa using hi
      have d1 : decide ((i : Int) < (h.2.length : Int)) = true := decide_eq_true (by omega)
      have gd : ∀ j (hj : j < h.2.length), h.2.getD j 0 = h.2[j] := fun j hj => by simp [List.getD, hj]
      have hr : (List.range h.2.length)[i] = i := by simp
      simp only [d1, cond_true, gidx_nat hi', Option.bind_some, inRange_ok, hr, gd i hi', w64_succ (i := i) (by omega)]
      have e2 : ((i + 1 : Nat) : Int) = (i : Int) + 1 := by omega
      by_cases hin : 1 ≤ h.2[i] ∧ h.2[i] ≤ 1000
      · rw [decide_eq_true hin]
        by_cases h0 : 0 < i
        · have d0 : decide ((0 : Int) < (i : Int)) = true := decide_eq_true (by omega)
          have ew : w64 ((i : Int) - 1) = ((i - 1 : Nat) : Int) := by rw [w64_id (by omega) (by omega)]; omega
          simp only [Bool.not_true, cond_false, d0, cond_true, ew, gidx_nat (show i - 1 < h.2.length by omega), Option.bind_some, gd (i - 1) (by omega), decide_eq_true h0, Bool.true_and]
          by_cases hlt : h.2[i] < h.2[i - 1] <;> simp [hlt, e2]
        · have d0 : decide ((0 : Int) < (i : Int)) = false := decide_eq_false (by omega)
          simp [d0, h0, e2]
      · rw [decide_eq_false hin]
        simp
    · simp
def upT (ts : List Int) (t : Int) : Nat := ts.countP fun x => decide (x ≤ t)
theorem upT_le {ts : List Int} {t : Int} : upT ts t ≤ ts.length := List.countP_le_length
theorem upT_lt {ts : List Int} {t : Int} (hp : ts.Pairwise (· ≤ ·)) {i : Nat} (hi : i < ts.length) : i < upT ts t ↔ ts[i] ≤ t := by
  induction ts generalizing i with
  | nil => simp at hi
  | cons x ts ih =>
    rw [List.pairwise_cons] at hp
    unfold upT at ih ⊢
    rw [List.countP_cons]
    cases i with
    | zero =>
      by_cases hx : x ≤ t
      · simp [hx]
      · have : ts.countP (fun y => decide (y ≤ t)) = 0 := by
          rw [List.countP_eq_zero]
          intro y hy
          have := hp.1 y hy
          simp; omega
        simp [hx, this]
    | succ i =>
      have hi2 : i < ts.length := by simpa using hi
      have h2 := ih hp.2 hi2
      simp only [List.getElem_cons_succ]
      by_cases hx : x ≤ t
      · simp only [hx, decide_true, if_true]
        rw [← h2]; omega
      · have h0 : ts.countP (fun y => decide (y ≤ t)) = 0 := by
          rw [List.countP_eq_zero]
          intro y hy
          have := hp.1 y hy
          simp; omega
        have hni : ¬ ts[i] ≤ t := by have := hp.1 _ (List.getElem_mem hi2); omega
        simp [hx, h0, hni]
theorem specUp_ok {h : Hist} {t : Int} (s : SmallH h) : M.spec_upTo (h.1, h.2) t = some (upT h.2 t : Int) := by
  unfold M.spec_upTo
  have hs := s.2
  refine fold_bind (xs := h.2) (fun (n : Int) i => (n, i)) (fun n x => n + (if x ≤ t then 1 else 0)) (fun i n => n = ((h.2.take i).countP fun x => decide (x ≤ t) : Nat)) (fun n => n) (s0 := 0) (by simp) ?_ ?_ ?_
  · rintro n i hi rfl
    have d1 : decide ((i : Int) < (h.2.length : Int)) = true := decide_eq_true (by omega)
    have hc : (h.2.take i).countP (fun x => decide (x ≤ t)) ≤ i := Nat.le_trans List.countP_le_length (by simp; omega)
    have ht : M.spec_toInt (decide (h.2[i] ≤ t)) = some (if h.2[i] ≤ t then 1 else 0) := by
      unfold M.spec_toInt
      by_cases hx : h.2[i] ≤ t <;> simp [hx]
    simp only [d1, cond_true, gidx_nat hi, Option.bind_some, ht, w64_succ (i := i) (by omega)]
    refine ⟨?_, ?_⟩
    · rw [w64_id (by split <;> omega) (by split <;> omega)]
    · rw [List.take_succ_eq_append_getElem hi, List.countP_append]
      by_cases hx : h.2[i] ≤ t <;> simp [hx]
  · intro n _; simp
  · intro hn
    rw [hn, List.take_length]; rfl
def storeAt (h : Hist) (t : Int) : List Item := if okHi h = true ∧ 0 ≤ t ∧ t ≤ 1000 then (repL [] (h.1.take (upT h.2 t))).1 else []
theorem storeAt_ok {h : Hist} {t : Int} : okStore (storeAt h t) = true := by
  unfold storeAt
  split
  · exact repL_ok _ okStore_nil
  · rfl
theorem specAt_ok {h : Hist} {t : Int} (s : SmallH h) : M.spec_StoreAt (h.1, h.2) t = some (storeAt h t) := by
  unfold M.spec_StoreAt storeAt
  simp only [specvHi_ok s, inRange_ok, Option.bind_some]
  cases ho : okHi h with
  | false => simp
  | true =>
    by_cases ht : 0 ≤ t ∧ t ≤ 1000
    · obtain ⟨hg, hlen, _, _⟩ := okHi_iff.1 ho
      have hu := upT_le (ts := h.2) (t := t)
      have hgs := gslice_nat (xs := h.1) (l := 0) (h := upT h.2 t) (by omega) (by omega)
      simp only [Int.natCast_zero, List.drop_zero] at hgs
      have hsub : (h.1.take (upT h.2 t)).Sublist h.1 := List.take_sublist _ _
      rw [decide_eq_true ht, if_pos ⟨rfl, ht⟩]
      simp only [Bool.not_true, cond_false, Option.bind_some, specUp_ok s, hgs, specReplay_ok nil_small (s.1.sub hsub), repV_of okStore_nil (okLg_sub hg hsub)]
    · rw [decide_eq_false ht, if_neg (fun q => ht q.2)]
      simp
theorem copyEn_ok {e : Ent} (h : e.2.2.1.length ≤ 1048576) : M.spec_copyEntry (e.1, (e.2.1, e.2.2.1, e.2.2.2)) = some e := by
  unfold M.spec_copyEntry
  rw [copyItem_spec2 (x := e.2) h]; rfl
theorem specCopyHi_ok {h : Hist} {n : Nat} (s : SmallH h) (h1 : n ≤ h.1.length) (h2 : n ≤ h.2.length) (hn : n ≤ 1000) : M.spec_copyHistory (h.1, h.2) (n : Int) = some (h.1.take n, h.2.take n) := by
  unfold M.spec_copyHistory
  refine fold_bind (xs := h.1.take n) (fun (l : List Ent) i => (l, i)) (fun l e => l ++ [e]) (fun i l => l = (h.1.take n).take i) (fun l => l) (s0 := []) (by simp) ?_ ?_ ?_
  · rintro l i hi rfl
    have hi' : i < n := by simp at hi; omega
    have d1 : decide ((i : Int) < (n : Int)) = true := decide_eq_true (by omega)
    have hi1 : i < h.1.length := by omega
    simp only [d1, cond_true, gidx_nat hi1, Option.bind_some, copyEn_ok (s.1.2 _ (List.getElem_mem hi1)), w64_succ (i := i) (by omega)]
    rw [gapp_ok (by simp; omega)]
    refine ⟨by simp only [Option.bind_some, List.getElem_take], ?_⟩
    rw [List.take_succ_eq_append_getElem hi]
  · intro l _
    simp [Nat.min_eq_left h1]
  · intro hl
    have hg := gslice_nat (xs := h.2) (l := 0) (h := n) (by omega) h2
    simp only [Int.natCast_zero, List.drop_zero] at hg
    rw [hl, List.take_length]
    simp only [hg, Option.bind_some, copy_ok (v := h.2.take n) (by simp; omega)]
def addV (h : Hist) (e : Ent) (t : Int) : Hist × Bool := if okHi h = true ∧ okEn e = true ∧ okHi (h.1 ++ [e], h.2 ++ [t]) = true then ((h.1 ++ [e], h.2 ++ [t]), true) else (([], []), false)
theorem specAdd_ok {h : Hist} {e : Ent} {t : Int} (s : SmallH h) (he : e.2.2.1.length ≤ 1048576) : M.spec_AddEntry (h.1, h.2) (e.1, (e.2.1, e.2.2.1, e.2.2.2)) t = some (addV h e t) := by
  unfold M.spec_AddEntry addV
  simp only [specvHi_ok s, specEn_ok he, Option.bind_some]
  cases ho : okHi h with
  | false => simp
  | true =>
    cases hoe : okEn e with
    | false => simp
    | true =>
      obtain ⟨hg, hlen, _, _⟩ := okHi_iff.1 ho
      have h32 := (okLg_iff.1 hg).2
      have sb : SmallH (h.1 ++ [e], h.2 ++ [t]) := ⟨⟨by simp; omega, fun x hx => by
        rcases List.mem_append.1 hx with hx | hx
        · exact s.1.2 x hx
        · simp only [List.mem_singleton] at hx; rw [hx]; exact he⟩, by simp; omega⟩
      simp only [Bool.not_true, cond_false, Option.bind_some, specCopyHi_ok s (Nat.le_refl _) (by omega : h.1.length ≤ h.2.length) (by omega), copyEn_ok he, List.take_length]
      have hT : h.2.take h.1.length = h.2 := List.take_of_length_le (by omega)
      rw [hT, gapp_ok (by simp; omega)]
      simp only [Option.bind_some]
      rw [gapp_ok (by simp; omega)]
      have hv := specvHi_ok sb
      simp only at hv
      simp only [Option.bind_some, hv]
      cases okHi (h.1 ++ [e], h.2 ++ [t]) <;> simp
end Go.Vs

namespace Go.Vs

def NearH (h : Hist) : Prop := NearE h.1 ∧ h.2.length ≤ 40
theorem NearH.small {h : Hist} (n : NearH h) : SmallH h := ⟨n.1.small, by have := n.2; omega⟩
theorem okHi_near {h : Hist} (ok : okHi h = true) : NearH h := by
  obtain ⟨h1, h2, _, _⟩ := okHi_iff.1 ok
  obtain ⟨h3, h4⟩ := okLg_iff.1 h1
  refine ⟨⟨by omega, fun e he => ?_⟩, by omega⟩
  have := h3 e he
  unfold okEn at this
  split at this
  · have := isItem_len this; omega
  · simp only [Bool.and_eq_true, decide_eq_true_eq] at this
    omega
theorem addV_near {h : Hist} {e : Ent} {t : Int} : NearH (addV h e t).1 := by
  unfold addV
  split
  · rename_i hq; exact okHi_near hq.2.2
  · exact ⟨⟨by simp, by simp⟩, by simp⟩
theorem spoil2_ok {k : Nat} (hk : k ≤ 700000) {r : List UInt8 × Int} (hr : Good k r) {v : List Int} (hv : v.length ≤ 1000) (n : Int) :
    ∃ u r', M.spec_reader_spoil r v n = some (u, r') ∧ Good (k + 3) r' ∧ u.length ≤ v.length + 1 := by
  obtain ⟨x1, r1, h1, g1, a1, b1, _⟩ := pick_ok (by omega) hr 20
  unfold M.spec_reader_spoil
  simp only [copy_ok (v := v) (by omega), Option.bind_some, h1]
  by_cases c0 : x1 = 0
  · refine ⟨v ++ [n], r1, ?_, g1.mono (by omega), by simp⟩
    simp [c0, gapp_ok (xs := v) (ys := [n]) (by simp; omega)]
  have e0 : (x1 == 0) = false := by simpa using c0
  simp only [e0, cond_false]
  by_cases c1 : x1 = 1
  · by_cases hp : 0 < v.length
    · have hpos : decide ((0 : Int) < (v.length : Int)) = true := decide_eq_true (by omega)
      have hg : gslice v 1 (v.length : Int) = some (v.drop 1) := by
        rw [gslice_ok (by omega) (by omega) (by omega)]; simp
      refine ⟨v.drop 1, r1, ?_, g1.mono (by omega), by simp; omega⟩
      simp [c1, hp, hg]
    · refine ⟨v, r1, ?_, g1.mono (by omega), by omega⟩
      simp [c1, hp]
  have e1 : (x1 == 1) = false := by simpa using c1
  simp only [e1, cond_false]
  by_cases c2 : x1 = 2
  · by_cases hp : 0 < v.length
    · obtain ⟨i, r2, h2, g2, a2, b2, _⟩ := pick_ok (by omega) g1 (v.length : Int)
      obtain ⟨y, r3, h3, g3, m3⟩ := one_ok (by omega) g2 (list := [-1, n, 0, 1]) (by simp)
      have b2 := b2 (by omega)
      obtain ⟨z, hz, _⟩ := gidx_lt' (xs := v) a2 b2
      refine ⟨v.set i.toNat y, r3, ?_, g3, by simp⟩
      simp [c2, hp, h2, h3, hz]
    · refine ⟨v, r1, ?_, g1.mono (by omega), by omega⟩
      simp [c2, hp]
  · have e2 : (x1 == 2) = false := by simpa using c2
    exact ⟨v, r1, by simp [e2], g1.mono (by omega), by omega⟩
theorem hist_loop : ∀ (n : Nat) {k : Nat} {r : List UInt8 × Int} {h : Hist} {t : Int}, k + 30 * n ≤ 100000 → Good k r → NearH h →
    ∃ (r' : List UInt8 × Int) (h' : Hist), loopM (fun (s27 : ((List UInt8) × (Int)) × ((List (Int × (Int × (List Int) × Int))) × (List Int)) × (Int) × (Int)) => (bif decide (0 < s27.2.2.2) then
  (M.spec_someEntry (s27.1.1, s27.1.2)).bind fun r37 =>
  (M.spec_AddEntry (s27.2.1.1, s27.2.1.2) (r37.1.1, (r37.1.2.1, r37.1.2.2.1, r37.1.2.2.2)) s27.2.2.1).bind fun r44 =>
  Option.bind ((bif r44.2 then
  some (r44.1.1, r44.1.2)
 else
  some (s27.2.1.1, s27.2.1.2))) fun o53 =>
  (M.spec_reader_one (r37.2.1, r37.2.2) ([0, 1, 5, 10] : List Int)).bind fun r66 =>
  some (.inl ((r66.2.1, r66.2.2), (o53.1, o53.2), w64 (s27.2.2.1 + r66.1), w64 (s27.2.2.2 - 1)))
 else
  some (.inr ((s27.1.1, s27.1.2), (s27.2.1.1, s27.2.1.2))))) (r, h, t, (n : Int)) = some ((r'.1, r'.2), (h'.1, h'.2)) ∧ Good (k + 30 * n) r' ∧ NearH h' := by
  intro n
  induction n with
  | zero =>
    intro k r h t _ hg hh
    rw [loopM_eq]
    simp only [Int.natCast_zero, Int.lt_irrefl, decide_false, cond_false, Option.bind_some, selim]
    exact ⟨r, h, rfl, hg.mono (by omega), hh⟩
  | succ n ih =>
    intro k r h t hk hg hh
    obtain ⟨e, ⟨a1, a2⟩, h1, g1, he⟩ := someEn_ok (by omega) hg
    obtain ⟨x, ⟨b1, b2⟩, h2, g2, _⟩ := one_ok (by omega) g1 (list := [0, 1, 5, 10]) (by simp)
    have e1 : decide ((0 : Int) < ((n + 1 : Nat) : Int)) = true := decide_eq_true (by omega)
    have e2 : w64 (((n + 1 : Nat) : Int) - 1) = (n : Int) := by rw [w64_id (by omega) (by omega)]; omega
    have hadd := specAdd_ok (h := h) (e := e) (t := t) hh.small (by omega)
    have hn2 := addV_near (h := h) (e := e) (t := t)
    rw [loopM_eq]
    simp only [e1, cond_true, h1, Option.bind_some, hadd, h2, e2]
    cases hb : (addV h e t).2 with
    | true =>
      simp only [cond_true, Option.bind_some, selim]
      obtain ⟨r', h', q1, q2, q3⟩ := ih (k := k + 30) (r := (b1, b2)) (h := (addV h e t).1) (t := w64 (t + x)) (by omega) (g2.mono (by omega)) hn2
      exact ⟨r', h', q1, q2.mono (by omega), q3⟩
    | false =>
      simp only [cond_false, Option.bind_some, selim]
      obtain ⟨r', h', q1, q2, q3⟩ := ih (k := k + 30) (r := (b1, b2)) (h := h) (t := w64 (t + x)) (by omega) (g2.mono (by omega)) hh
      exact ⟨r', h', q1, q2.mono (by omega), q3⟩
theorem someHi_ok {k : Nat} (hk : k ≤ 10000) {r : List UInt8 × Int} (hr : Good k r) : ∃ (h : Hist) (r' : List UInt8 × Int), M.spec_someHistory (r.1, r.2) = some ((h.1, h.2), (r'.1, r'.2)) ∧ Good (k + 700) r' ∧ NearH h := by
  obtain ⟨t, ⟨a1, a2⟩, h1, g1, _⟩ := pick_ok (by omega) hr 20
  obtain ⟨n, ⟨b1, b2⟩, h2, g2, hn⟩ := one_ok (by omega) g1 (list := [5, 8, 12, 3, 0, 20]) (by simp)
  have hn' : 0 ≤ n ∧ n ≤ 20 := by
    simp only [List.mem_cons, List.not_mem_nil, or_false] at hn
    omega
  obtain ⟨m, rfl⟩ := Int.eq_ofNat_of_zero_le hn'.1
  obtain ⟨r', h', q1, q2, q3⟩ := hist_loop m (r := (b1, b2)) (h := ([], [])) (t := w64 (1 + t)) (by omega) g2 ⟨⟨by simp, by simp⟩, by simp⟩
  unfold M.spec_someHistory
  have h1' : M.spec_reader_pick (r.1, r.2) 20 = some (t, (a1, a2)) := h1
  simp only [h1', h2, Option.bind_some]
  refine ⟨h', r', ?_, q2.mono (by omega), q3⟩
  rw [q1]; rfl
theorem anyHi_ok {k : Nat} (hk : k ≤ 5000) {r : List UInt8 × Int} (hr : Good k r) : ∃ (h : Hist) (r' : List UInt8 × Int), M.spec_anyHistory (r.1, r.2) = some ((h.1, h.2), (r'.1, r'.2)) ∧ Good (k + 1000) r' ∧ (h.1.length ≤ 35 ∧ (∀ e ∈ h.1, e.2.2.1.length ≤ 5) ∧ h.2.length ≤ 42) := by
  obtain ⟨h, ⟨a1, a2⟩, h1, g1, nh⟩ := someHi_ok (by omega) hr
  obtain ⟨c, ⟨b1, b2⟩, h2, g2, _⟩ := pick_ok (by omega) g1 16
  obtain ⟨⟨n1, n2⟩, n3⟩ := nh
  unfold M.spec_anyHistory
  simp only [h1, h2, Option.bind_some]
  by_cases c0 : c = 0
  · obtain ⟨u, ⟨d1, d2⟩, h3, g3, hu⟩ := spoil2_ok (by omega) g2 (v := h.2 ++ [1000]) (by simp; omega) 1001
    have hga : gapp h.2 ([1000] : List Int) = some (h.2 ++ [1000]) := gapp_ok (by simp; omega)
    refine ⟨(h.1, u), (d1, d2), by simp only [c0, beq_self_eq_true, cond_true, hga, h3, Option.bind_some], g3.mono (by omega), by simp only; omega, n2, ?_⟩
    simp at hu ⊢; omega
  have e0 : (c == 0) = false := beq_false_of_ne c0
  by_cases c1 : c = 1
  · obtain ⟨e, ⟨d1, d2⟩, h3, g3, he⟩ := anyEn_ok (by omega) g2
    obtain ⟨x, ⟨f1, f2⟩, h4, g4, _⟩ := one_ok (by omega) g3 (list := [0, 900]) (by simp)
    have hga : gapp h.1 ([(e.1, (e.2.1, e.2.2.1, e.2.2.2))] : List Ent) = some (h.1 ++ [e]) := gapp_ok (by simp; omega)
    have hgb : gapp h.2 ([x] : List Int) = some (h.2 ++ [x]) := gapp_ok (by simp; omega)
    have e1 : ((1 : Int) == 0) = false := rfl
    refine ⟨(h.1 ++ [e], h.2 ++ [x]), (f1, f2), by simp only [c1, e1, cond_false, beq_self_eq_true, cond_true, h3, hga, h4, hgb, Option.bind_some], g4.mono (by omega), by simp; omega, fun y hy => ?_, by simp; omega⟩
    rcases List.mem_append.1 hy with hy | hy
    · exact n2 y hy
    · simp only [List.mem_singleton] at hy; rw [hy]; exact he
  · have e1 : (c == 1) = false := beq_false_of_ne c1
    exact ⟨h, (b1, b2), by simp only [e0, e1, cond_false, Option.bind_some], g2.mono (by omega), by omega, n2, by omega⟩
def NearG (h : Hist) : Prop := h.1.length ≤ 35 ∧ (∀ e ∈ h.1, e.2.2.1.length ≤ 5) ∧ h.2.length ≤ 42
theorem NearG.small {h : Hist} (n : NearG h) : SmallH h := by
  obtain ⟨n1, n2, n3⟩ := n
  exact ⟨⟨by omega, fun e he => by have := n2 e he; omega⟩, by omega⟩
theorem drawAE_ok (code : List UInt8) : ∃ (h : Hist) (e : Ent) (t : Int), M.spec_DrawAddEntry code = some ((h.1, h.2), (e.1, (e.2.1, e.2.2.1, e.2.2.2)), t) ∧ NearG h ∧ e.2.2.1.length ≤ 5 := by
  obtain ⟨⟨r1, r2⟩, h0, g⟩ := newReader_ok code
  obtain ⟨h, ⟨a1, a2⟩, h1, g1, n⟩ := anyHi_ok (by omega) g
  unfold M.spec_DrawAddEntry
  simp only [h0, h1, Option.bind_some]
  by_cases hp : 0 < h.2.length
  · have d : decide ((0 : Int) < (h.2.length : Int)) = true := decide_eq_true (by omega)
    have hn3 := n.2.2
    have ew : w64 ((h.2.length : Int) - 1) = ((h.2.length - 1 : Nat) : Int) := by rw [w64_id (by omega) (by omega)]; omega
    obtain ⟨y, ⟨c1, c2⟩, h3, g3, _⟩ := one_ok (by omega) g1 (list := [0, 1, 20, -1]) (by simp)
    obtain ⟨e, ⟨d1, d2⟩, h4, g4, he⟩ := anyEn_ok (by omega) g3
    exact ⟨h, e, w64 (h.2[h.2.length - 1] + y), by simp only [d, cond_true, ew, gidx_nat (show h.2.length - 1 < h.2.length by omega), h3, h4, Option.bind_some], n, he⟩
  · have d : decide ((0 : Int) < (h.2.length : Int)) = false := decide_eq_false (by omega)
    obtain ⟨e, ⟨d1, d2⟩, h4, g4, he⟩ := anyEn_ok (by omega) g1
    exact ⟨h, e, 7, by simp only [d, cond_false, h4, Option.bind_some], n, he⟩
end Go.Vs

namespace Go.Vs

theorem isNaN1_ok (x : Int) : M.cmp_isNaN_int x = some false := by unfold M.cmp_isNaN_int; simp
theorem isNaN2_ok (x : Int) : M.slices_isNaN_int x = some false := by unfold M.slices_isNaN_int; simp
theorem lessI_ok (x y : Int) : M.cmp_Less_int x y = some (decide (x < y)) := by unfold M.cmp_Less_int; simp [isNaN1_ok]
theorem pairStep {ts : List Int} {k : Nat} (hk : k + 1 < ts.length) (h : (ts.drop (k + 1)).Pairwise (· ≤ ·)) (h1 : ts[k] ≤ ts[k + 1]) : (ts.drop k).Pairwise (· ≤ ·) := by
  rw [List.drop_eq_getElem_cons (by omega)]
  refine List.pairwise_cons.2 ⟨fun x hx => ?_, h⟩
  rw [List.drop_eq_getElem_cons hk] at h hx
  rcases List.mem_cons.1 hx with rfl | hx
  · exact h1
  · have := (List.pairwise_cons.1 h).1 x hx; omega
theorem isSorted_ok {ts : List Int} (h : ts.length ≤ 1048577) : M.slices_IsSorted_int_int ts = some (decide (ts.Pairwise (· ≤ ·))) := by
  unfold M.slices_IsSorted_int_int
  simp only [lessI_ok, Option.bind_some]
  cases hl : ts.length with
  | zero =>
    have : ts = [] := List.eq_nil_of_length_eq_zero hl
    subst this
    rw [show w64 (((0 : Nat) : Int) - 1) = -1 from rfl, loopM_eq]
    simp [selim]
  | succ n =>
    rw [show w64 (((n + 1 : Nat) : Int) - 1) = (n : Int) from (by rw [w64_id (by omega) (by omega)]; omega)]
    suffices hh : ∀ k : Nat, k < ts.length → (ts.drop k).Pairwise (· ≤ ·) → loopM (fun (s2 : (Int)) => (bif decide (0 < s2) then
      (gidx ts s2).bind fun x5 =>
      (gidx ts (w64 (s2 - 1))).bind fun x11 =>
      (bif decide (x5 < x11) then some (.inr (.inr false)) else some (.inl (w64 (s2 - 1)))) else some (.inr (.inl ())))) (k : Int) = some (if ts.Pairwise (· ≤ ·) then .inl () else .inr false : Unit ⊕ Bool) by
      have h0 := hh n (by omega) (by rw [List.drop_eq_getElem_cons (by omega), List.drop_eq_nil_of_le (by omega)]; exact List.pairwise_singleton _ _)
      rw [h0, Option.bind_some]
      by_cases hp : ts.Pairwise (· ≤ ·)
      · simp [hp, selim]
      · simp [hp, selim]
    intro k
    induction k with
    | zero =>
      intro hk hp
      rw [List.drop_zero] at hp
      rw [loopM_eq]; simp [selim, hp]
    | succ k ih =>
      intro hk hp
      have e1 : w64 (((k + 1 : Nat) : Int) - 1) = (k : Int) := by rw [w64_id (by omega) (by omega)]; omega
      rw [loopM_eq]
      simp only [show decide (0 < ((k + 1 : Nat) : Int)) = true by simp, cond_true, e1, gidx_nat hk, gidx_nat (show k < ts.length by omega), Option.bind_some]
      by_cases hlt : ts[k + 1] < ts[k]
      · have hn : ¬ ts.Pairwise (· ≤ ·) := fun q => by
          have := List.pairwise_iff_getElem.1 q k (k + 1) (by omega) hk (by omega); omega
        simp [hlt, hn, selim]
      · simp only [hlt, decide_false, cond_false, Option.bind_some, selim]
        exact ih (by omega) (pairStep hk hp (by omega))
theorem implTimes_ok {ts : List Int} (h : ts.length ≤ 1048577) : M.impl_validTimes ts = some (okTimes ts) := by
  unfold M.impl_validTimes okTimes
  rw [loop_all (xs := ts) (P := fun t => decide (1 ≤ t ∧ t ≤ 1000)) (r := false)]
  · cases ts.all fun t => decide (1 ≤ t ∧ t ≤ 1000) with
    | false => simp [selim]
    | true => simp [selim, isSorted_ok h]
  · intro i hi
    have hd : decide ((i : Int) < (ts.length : Int)) = true := by simp; omega
    simp only [hd, cond_true, gidx_nat hi, Option.bind_some, w64_succ (show i < 4000000000000000000 by omega)]
    by_cases h1 : ts[i] < 1
    · have : ¬ (1 ≤ ts[i] ∧ ts[i] ≤ 1000) := by omega
      simp [h1, this]
    · by_cases h2 : 1000 < ts[i]
      · have : ¬ (1 ≤ ts[i] ∧ ts[i] ≤ 1000) := by omega
        simp [h1, h2, this]
      · have : (1 ≤ ts[i] ∧ ts[i] ≤ 1000) := by omega
        simp [h1, h2, this]
  · simp
theorem repV_hi {log : List Ent} : ((repV [] log).2 == (log.length : Int)) = (okLg log && decide ((repL [] log).2 = log.length)) := by
  unfold repV
  by_cases ok : okLg log = true
  · rw [if_pos ⟨okStore_nil, ok⟩, ok, Bool.true_and, Bool.eq_iff_iff]; simp; omega
  · rw [if_neg (fun q => ok q.2)]
    simp only [Bool.not_eq_true] at ok
    rw [ok, Bool.false_and]
    simp
theorem implVHi_ok {h : Hist} (s1 : SmallE h.1) (s2 : h.2.length ≤ 1048577) : M.impl_ValidHistory (h.1, h.2) = some (okHi h) := by
  unfold M.impl_ValidHistory okHi
  simp only [implTimes_ok s2, Option.bind_some, implReplay_ok nil_small s1, repV_hi]
  by_cases hl : h.2.length = h.1.length
  · have : ((h.2.length : Int) != (h.1.length : Int)) = false := by simp [hl]
    simp only [this, cond_false, Option.bind_some, hl, decide_true, Bool.true_and]
    cases okTimes h.2 with
    | false => simp
    | true => simp
  · have : ((h.2.length : Int) != (h.1.length : Int)) = true := by simp; omega
    simp [this, hl]
theorem implMom_ok (t : Int) : M.impl_validMoment t = some (decide (0 ≤ t ∧ t ≤ 1000)) := by
  unfold M.impl_validMoment
  by_cases h : 0 ≤ t <;> simp [h]
theorem bsearch_ok {ts : List Int} {t : Int} (h : ts.length ≤ 1048576) (hp : ts.Pairwise (· ≤ ·)) : ∃ b, M.slices_BinarySearch_int_int ts (t + 1) = some ((upT ts t : Int), b) := by
  unfold M.slices_BinarySearch_int_int
  simp only [lessI_ok, Option.bind_some]
  have key : ∀ m i j : Nat, j - i ≤ m → i ≤ upT ts t → upT ts t ≤ j → j ≤ ts.length → loopM (fun (s2 : (Int) × (Int)) => (bif decide (s2.1 < s2.2) then
      (gidx ts (wk .i64 (gshr .u64 (wk .u64 (w64 (s2.1 + s2.2))) 1))).bind fun x5 =>
      (bif decide (x5 < t + 1) then
      some (.inl (w64 ((wk .i64 (gshr .u64 (wk .u64 (w64 (s2.1 + s2.2))) 1)) + 1), s2.2))
     else
      some (.inl (s2.1, wk .i64 (gshr .u64 (wk .u64 (w64 (s2.1 + s2.2))) 1))))
     else
      some (.inr s2.1))) ((i : Int), (j : Int)) = some (upT ts t : Int) := by
    intro m
    induction m with
    | zero =>
      intro i j hm h1 h2 h3
      have : i = upT ts t := by omega
      rw [loopM_eq]
      have hd : decide ((i : Int) < (j : Int)) = false := by simp; omega
      simp only [hd, cond_false, Option.bind_some, selim]
      rw [this]
    | succ m ih =>
      intro i j hm h1 h2 h3
      by_cases hij : i < j
      · have hd : decide ((i : Int) < (j : Int)) = true := by simp; omega
        have hlt : (i + j) / 2 < ts.length := by omega
        rw [loopM_eq]
        simp only [hd, cond_true, mid_ok (Nat.le_of_lt hij) (show j < 1000000000 by omega), gidx_nat hlt, Option.bind_some, w64_succ (show (i + j) / 2 < 4000000000000000000 by omega)]
        have hu := upT_lt hp (t := t) hlt
        by_cases hx : ts[(i + j) / 2] ≤ t
        · have hd2 : decide (ts[(i + j) / 2] < t + 1) = true := by simp; omega
          simp only [hd2, cond_true, Option.bind_some, selim]
          exact ih ((i + j) / 2 + 1) j (by omega) (by have := hu.2 hx; omega) h2 h3
        · have hd2 : decide (ts[(i + j) / 2] < t + 1) = false := by simp; omega
          simp only [hd2, cond_false, Option.bind_some, selim]
          refine ih i ((i + j) / 2) (by omega) h1 ?_ (by omega)
          have : ¬ (i + j) / 2 < upT ts t := fun q => hx (hu.1 q)
          omega
      · have : i = upT ts t := by omega
        rw [loopM_eq]
        have hd : decide ((i : Int) < (j : Int)) = false := by simp; omega
        simp only [hd, cond_false, Option.bind_some, selim]
        rw [this]
  have hk := key ts.length 0 ts.length (by omega) (Nat.zero_le _) upT_le (Nat.le_refl _)
  rw [show ((0 : Nat) : Int) = 0 from rfl] at hk
  rw [hk, Option.bind_some]
  by_cases hd : upT ts t < ts.length
  · have h2 : decide ((upT ts t : Int) < (ts.length : Int)) = true := by simp; omega
    simp only [h2, cond_true, gidx_nat hd, Option.bind_some, isNaN2_ok, cond_false]
    cases (ts[upT ts t] == t + 1)
    · exact ⟨_, rfl⟩
    · exact ⟨_, rfl⟩
  · have h2 : decide ((upT ts t : Int) < (ts.length : Int)) = false := by simp; omega
    simp only [h2, cond_false]
    exact ⟨_, rfl⟩
theorem implUntil_ok {h : Hist} {t : Int} (s : h.2.length ≤ 1048576) (hp : h.2.Pairwise (· ≤ ·)) (h0 : 0 ≤ t) (h1 : t ≤ 1000) : M.impl_History_entriesUntil (h.1, h.2) t = some (upT h.2 t : Int) := by
  unfold M.impl_History_entriesUntil
  rw [w64_id (by omega) (by omega)]
  obtain ⟨b, hb⟩ := bsearch_ok (t := t) s hp
  simp only [hb, Option.bind_some]
theorem copyLog_loop {log : List Ent} (h : SmallE log) {g : Ent → Option Item} (hg : ∀ e ∈ log, g e = some e.2) :
    loopM (fun (s8 : (List Ent) × (Int)) => (bif decide (s8.2 < (log.length : Int)) then
      (gidx log s8.2).bind fun x13 =>
      (g x13).bind fun r28 =>
      (gidx s8.1 s8.2).bind fun x34 =>
      some (.inl ((s8.1.set s8.2.toNat (x13.1, (r28.1, r28.2.1, r28.2.2))), w64 (s8.2 + 1)))
     else
      some (.inr s8.1))) ((List.replicate log.length ((0, (0, [], 0)) : Ent)), 0) = some log := by
  have key : ∀ m k : Nat, k + m = log.length → loopM (fun (s8 : (List Ent) × (Int)) => (bif decide (s8.2 < (log.length : Int)) then
      (gidx log s8.2).bind fun x13 =>
      (g x13).bind fun r28 =>
      (gidx s8.1 s8.2).bind fun x34 =>
      some (.inl ((s8.1.set s8.2.toNat (x13.1, (r28.1, r28.2.1, r28.2.2))), w64 (s8.2 + 1)))
     else
      some (.inr s8.1))) (log.take k ++ List.replicate (log.length - k) ((0, (0, [], 0)) : Ent), (k : Int)) = some log := by
    intro m
    induction m with
    | zero =>
      intro k hk
      have : k = log.length := by omega
      subst this
      rw [loopM_eq]
      simp [selim]
    | succ m ih =>
      intro k hk
      have hlt : k < log.length := by omega
      have hd : decide ((k : Int) < (log.length : Int)) = true := by simp; omega
      have h1 := h.1
      have hl2 : k < (log.take k ++ List.replicate (log.length - k) ((0, (0, [], 0)) : Ent)).length := by simp; omega
      rw [loopM_eq]
      simp only [hd, cond_true, gidx_nat hlt, Option.bind_some, hg _ (List.getElem_mem hlt), gidx_nat hl2, w64_succ (show k < 4000000000000000000 by omega), selim]
      have he : (log.take k ++ List.replicate (log.length - k) ((0, (0, [], 0)) : Ent)).set (k : Int).toNat (log[k].1, (log[k].2.1, log[k].2.2.1, log[k].2.2.2)) = log.take (k + 1) ++ List.replicate (log.length - (k + 1)) ((0, (0, [], 0)) : Ent) := by
        rw [Int.toNat_natCast, List.set_append_right _ _ (by simp; omega), show k - (log.take k).length = 0 by simp; omega, show log.length - k = (log.length - (k + 1)) + 1 by omega, List.replicate_succ, List.set_cons_zero, List.take_succ_eq_append_getElem hlt, List.append_assoc]
        rfl
      rw [he]
      exact ih (k + 1) (by omega)
  have := key log.length 0 (by omega)
  simpa using this
theorem copyLog_ok {log : List Ent} (h : SmallE log) : M.impl_copyLog log = some log := by
  unfold M.impl_copyLog
  have h1 := h.1
  rw [gmake_ok (by omega) (by omega), Option.bind_some, Int.toNat_natCast]
  rw [copyLog_loop h (g := fun x => M.impl_copyItem (x.2.1, x.2.2.1, x.2.2.2)) (fun e he => implCopy_ok (h.2 e he))]
  rfl
theorem smallE_take {log : List Ent} (h : SmallE log) (n : Nat) : SmallE (log.take n) := ⟨by have := h.1; simp; omega, fun e he => h.2 e (List.mem_of_mem_take he)⟩
theorem first_ok {h : Hist} {n : Nat} (s : SmallE h.1) (s2 : h.2.length ≤ 1048577) (h1 : n ≤ h.1.length) (h2 : n ≤ h.2.length) : M.impl_History_firstEntries (h.1, h.2) (n : Int) = some (h.1.take n, h.2.take n) := by
  unfold M.impl_History_firstEntries
  have := s.1
  simp only [gslice_ok (xs := h.1) (show (0 : Int) ≤ 0 by omega) (show (0 : Int) ≤ (n : Int) by omega) (by omega), gslice_ok (xs := h.2) (show (0 : Int) ≤ 0 by omega) (show (0 : Int) ≤ (n : Int) by omega) (by omega), Option.bind_some, Int.toNat_natCast, Int.toNat_zero, List.drop_zero,
    copyLog_ok (smallE_take s n), clone_ok (show (h.2.take n).length ≤ 1048576 by simp; omega)]
theorem okHi_sorted {h : Hist} (ok : okHi h = true) : h.2.Pairwise (· ≤ ·) := (okTimes_iff.1 (okHi_iff.1 ok).2.2.1).2
theorem okHi_front {h : Hist} {e : Ent} {t : Int} (ok : okHi (h.1 ++ [e], h.2 ++ [t]) = true) : okHi h = true ∧ okEn e = true := by
  obtain ⟨h1, h2, h3, h4⟩ := okHi_iff.1 ok
  simp only [List.length_append, List.length_cons, List.length_nil] at h2 h4
  have h5 : (repL [] h.1).2 = h.1.length := by
    have := repL_take (h.1 ++ [e]) [] h.1.length (by omega)
    simpa using this
  obtain ⟨g1, g2⟩ := okLg_iff.1 h1
  obtain ⟨k1, k2⟩ := okTimes_iff.1 h3
  refine ⟨okHi_iff.2 ⟨okLg_sub h1 (List.sublist_append_left _ _), by omega, okTimes_iff.2 ⟨fun x hx => k1 x (List.mem_append_left _ hx), k2.sublist (List.sublist_append_left _ _)⟩, h5⟩, g1 e (by simp)⟩
theorem cloneE_ok {log : List Ent} (h : log.length ≤ 1048576) : M.slices_Clone_impl_Entry_impl_Entry log = some log := by
  unfold M.slices_Clone_impl_Entry_impl_Entry; rw [gapp_ok (by simp; omega)]; rfl
theorem implAdd_ok {h : Hist} {e : Ent} {t : Int} (s : SmallH h) (hL : h.1.length ≤ 1048575) (he : e.2.2.1.length ≤ 1048576) : M.impl_AddEntry (h.1, h.2) (e.1, (e.2.1, e.2.2.1, e.2.2.2)) t = some (addV h e t) := by
  unfold M.impl_AddEntry addV
  have s2 := s.2
  have s1 := s.1.1
  have sE : SmallE (h.1 ++ [e]) := ⟨by simp; omega, fun x hx => by
    rcases List.mem_append.1 hx with hx | hx
    · exact s.1.2 x hx
    · rw [List.mem_singleton.1 hx]; exact he⟩
  simp only [cloneE_ok s1, Option.bind_some, gapp_ok (xs := h.1) (ys := [e]) (by simp; omega), clone_ok s2, gapp_ok (xs := h.2) (ys := [t]) (by simp; omega)]
  have hv := implVHi_ok (h := (h.1 ++ [e], h.2 ++ [t])) sE (by simp; omega)
  simp only at hv
  rw [hv, Option.bind_some]
  by_cases ok : okHi (h.1 ++ [e], h.2 ++ [t]) = true
  · have hl := (okHi_iff.1 ok).2.1
    simp only at hl
    have hf := first_ok (h := (h.1 ++ [e], h.2 ++ [t])) (n := (h.1 ++ [e]).length) sE (by simp; omega) (Nat.le_refl _) (by simp only; omega)
    simp only [List.take_length] at hf
    obtain ⟨o1, o2⟩ := okHi_front ok
    rw [if_pos ⟨o1, o2, ok⟩, ok]
    simp only [Bool.not_true, cond_false, hf, Option.bind_some]
    rw [← hl, List.take_length]
  · rw [if_neg (fun q => ok q.2.2)]
    simp only [Bool.not_eq_true] at ok
    simp [ok]
end Go.Vs

namespace Go.Vs

def vPar (v : Vr Item) : Po Item × Vr Item × Vr Item := match v with
  | .nil => (.nil, .nil, .nil)
  | .node x l r => (x, l, r)
theorem node_ok (v : Vr Item) : M.impl_version_node v = some (vPar v) := by
  unfold M.impl_version_node
  cases v <;> rfl
def flat : Vr Item → List Item
  | .nil => []
  | .node (.to x) _ _ => [x]
  | .node .nil l r => flat l ++ flat r
def Sh : Nat → Nat → Vr Item → Prop
  | _, _, .nil => True
  | 0, b, .node x l r => l = .nil ∧ r = .nil ∧ ∀ y, x = .to y → y.1 = (b : Int) ∧ y.2.1.length ≤ 1048576
  | n + 1, b, .node x l r => x = .nil ∧ Sh n (2 * b) l ∧ Sh n (2 * b + 1) r
theorem Sh.keys : ∀ {n b : Nat} {v : Vr Item}, Sh n b v → ∀ x ∈ flat v, (b * 2 ^ n : Nat) ≤ x.1 ∧ x.1 < ((b + 1) * 2 ^ n : Nat) ∧ x.2.1.length ≤ 1048576
  | n, _, .nil, _, x, hx => by cases hx
  | 0, b, .node (.to y) l r, h, x, hx => by
    obtain rfl := List.mem_singleton.1 hx
    obtain ⟨_, _, h⟩ := h
    obtain ⟨h1, h2⟩ := h x rfl
    simp; omega
  | 0, b, .node .nil l r, h, x, hx => by
    obtain ⟨rfl, rfl, _⟩ := h
    cases hx
  | n + 1, b, .node x l r, h, y, hy => by
    obtain ⟨rfl, h1, h2⟩ := h
    have e : 2 ^ (n + 1) = 2 * 2 ^ n := by rw [Nat.pow_succ, Nat.mul_comm]
    rcases List.mem_append.1 (show y ∈ flat l ++ flat r from hy) with hy | hy
    · obtain ⟨a1, a2, a3⟩ := h1.keys y hy
      refine ⟨?_, ?_, a3⟩
      · rw [e]; have : b * (2 * 2 ^ n) = 2 * b * 2 ^ n := by rw [← Nat.mul_assoc, Nat.mul_comm b 2]
        omega
      · rw [e]; have : (2 * b + 1) * 2 ^ n ≤ (b + 1) * (2 * 2 ^ n) := by
          rw [← Nat.mul_assoc]; exact Nat.mul_le_mul_right _ (by omega)
        omega
    · obtain ⟨a1, a2, a3⟩ := h2.keys y hy
      refine ⟨?_, ?_, a3⟩
      · rw [e]; have : b * (2 * 2 ^ n) ≤ (2 * b + 1) * 2 ^ n := by
          rw [← Nat.mul_assoc]; exact Nat.mul_le_mul_right _ (by omega)
        omega
      · rw [e]; have : (2 * b + 1 + 1) * 2 ^ n ≤ (b + 1) * (2 * 2 ^ n) := by
          rw [← Nat.mul_assoc]; exact Nat.mul_le_mul_right _ (by omega)
        omega
theorem Sh.order : ∀ {n b : Nat} {v : Vr Item}, Sh n b v → (flat v).Pairwise (fun x y => x.1 < y.1)
  | _, _, .nil, _ => List.Pairwise.nil
  | 0, b, .node (.to y) l r, h => List.pairwise_singleton _ _
  | 0, b, .node .nil l r, h => by
    obtain ⟨rfl, rfl, _⟩ := h
    exact List.Pairwise.nil
  | n + 1, b, .node x l r, h => by
    obtain ⟨rfl, h1, h2⟩ := h
    show (flat l ++ flat r).Pairwise _
    refine List.pairwise_append.2 ⟨h1.order, h2.order, fun x hx y hy => ?_⟩
    have a := h1.keys x hx
    have b := h2.keys y hy
    omega
theorem Sh.len : ∀ {n b : Nat} {v : Vr Item}, Sh n b v → (flat v).length ≤ 2 ^ n
  | _, _, .nil, _ => Nat.zero_le _
  | 0, b, .node (.to y) l r, h => Nat.le_refl _
  | 0, b, .node .nil l r, h => by
    obtain ⟨rfl, rfl, _⟩ := h
    exact Nat.zero_le _
  | n + 1, b, .node x l r, h => by
    obtain ⟨rfl, h1, h2⟩ := h
    show (flat l ++ flat r).length ≤ _
    have a := h1.len
    have b := h2.len
    rw [List.length_append, Nat.pow_succ]; omega
theorem atK_app (a b : List Item) (k : Int) : atK (a ++ b) k = (atK a k).or (atK b k) := by
  unfold atK; exact List.find?_append
theorem atK_none {l : List Item} {k : Int} (h : ∀ x ∈ l, x.1 ≠ k) : atK l k = none := by
  unfold atK
  rw [List.find?_eq_none]
  intro x hx; simpa using h x hx
theorem side_all : ∀ (k : Fin 128) (n : Fin 7), gand (gshr .i64 (k.1 : Int) (n.1 : Int)) 1 = (((k.1 / 2 ^ n.1) % 2 : Nat) : Int) := by decide +kernel
theorem side_ok {k n : Nat} (hk : k < 128) (hn : n < 7) : gand (gshr .i64 (k : Int) (n : Int)) 1 = (((k / 2 ^ n) % 2 : Nat) : Int) := side_all ⟨k, hk⟩ ⟨n, hn⟩
theorem side_lo {k n b : Nat} (h1 : 2 * b * 2 ^ n ≤ k) (h2 : k < (2 * b + 1) * 2 ^ n) : k / 2 ^ n % 2 = 0 := by
  have : k / 2 ^ n = 2 * b := Nat.div_eq_of_lt_le h1 h2
  omega
theorem side_hi {k n b : Nat} (h1 : (2 * b + 1) * 2 ^ n ≤ k) (h2 : k < (2 * b + 1 + 1) * 2 ^ n) : k / 2 ^ n % 2 = 1 := by
  have : k / 2 ^ n = 2 * b + 1 := Nat.div_eq_of_lt_le h1 h2
  omega
def poL (x : Po Item) : Option Item := match x with
  | .nil => none
  | .to y => some y
theorem Sh.par {n b : Nat} {v : Vr Item} (h : Sh (n + 1) b v) : vPar v = (.nil, (vPar v).2.1, (vPar v).2.2) ∧ Sh n (2 * b) (vPar v).2.1 ∧ Sh n (2 * b + 1) (vPar v).2.2 ∧ flat v = flat (vPar v).2.1 ++ flat (vPar v).2.2 := by
  cases v with
  | nil => exact ⟨rfl, by cases n <;> trivial, by cases n <;> trivial, rfl⟩
  | node x l r =>
    obtain ⟨rfl, h1, h2⟩ := h
    exact ⟨rfl, h1, h2, rfl⟩
theorem Sh.par0 {b : Nat} {v : Vr Item} (h : Sh 0 b v) : (vPar v).2.1 = .nil ∧ (vPar v).2.2 = .nil ∧ (∀ y, (vPar v).1 = .to y → y.1 = (b : Int) ∧ y.2.1.length ≤ 1048576) ∧ flat v = (poL (vPar v).1).toList := by
  cases v with
  | nil => exact ⟨rfl, rfl, (fun y hy => by cases hy), rfl⟩
  | node x l r =>
    obtain ⟨rfl, rfl, h⟩ := h
    refine ⟨rfl, rfl, h, ?_⟩
    cases x <;> rfl
theorem with_ok : ∀ (n : Nat), n ≤ 7 → ∀ {b key fuel : Nat} {v : Vr Item} {x : Po Item}, n < fuel → Sh n b v → b * 2 ^ n ≤ key → key < (b + 1) * 2 ^ n → key < 128 → (∀ y, x = .to y → y.1 = (key : Int) ∧ y.2.1.length ≤ 1048576) →
    ∃ v', M.impl_version_with fuel v (key : Int) (n : Int) x = some v' ∧ Sh n b v' ∧ ∀ k : Int, atK (flat v') k = if k = (key : Int) then poL x else atK (flat v) k := by
  intro n
  induction n with
  | zero =>
    intro _ b key fuel v x hf hs h1 h2 h3 hx
    obtain ⟨fuel, rfl⟩ : ∃ m, fuel = m + 1 := ⟨fuel - 1, by omega⟩
    have hb : key = b := by simp at h1 h2; omega
    subst hb
    obtain ⟨e1, e2, e3, e4⟩ := hs.par0
    refine ⟨.node x .nil .nil, ?_, ⟨rfl, rfl, hx⟩, fun k => ?_⟩
    · show M.impl_version_with_F _ _ _ _ _ = _
      unfold M.impl_version_with_F
      simp only [node_ok, Option.bind_some, e1, e2]
      rfl
    · by_cases hk : k = (key : Int)
      · rw [if_pos hk]
        cases x with
        | nil => rfl
        | to y => have := (hx y rfl).1; simp [flat, atK, poL, this, hk]
      · rw [if_neg hk, e4]
        have a1 : atK (flat (.node x .nil .nil)) k = none := by
          refine atK_none fun y hy => ?_
          cases x with
          | nil => cases hy
          | to z => obtain rfl := List.mem_singleton.1 hy; rw [(hx y rfl).1]; exact fun q => hk q.symm
        have a2 : atK ((poL (vPar v).1).toList) k = none := by
          refine atK_none fun y hy => ?_
          cases hv : (vPar v).1 with
          | nil => rw [hv] at hy; cases hy
          | to z => rw [hv] at hy; obtain rfl := List.mem_singleton.1 hy; rw [(e3 y hv).1]; exact fun q => hk q.symm
        rw [a1, a2]
  | succ n ih =>
    intro hn b key fuel v x hf hs h1 h2 h3 hx
    obtain ⟨fuel, rfl⟩ : ∃ m, fuel = m + 1 := ⟨fuel - 1, by omega⟩
    obtain ⟨e1, e2, e3, e4⟩ := hs.par
    have p2 : 2 ^ (n + 1) = 2 * 2 ^ n := by rw [Nat.pow_succ, Nat.mul_comm]
    have q1 : b * 2 ^ (n + 1) = 2 * b * 2 ^ n := by rw [p2, ← Nat.mul_assoc, Nat.mul_comm b 2]
    have q2 : (b + 1) * 2 ^ (n + 1) = (2 * b + 1 + 1) * 2 ^ n := by rw [p2, ← Nat.mul_assoc]; congr 1; omega
    rw [q1] at h1
    rw [q2] at h2
    have hb0 : (((n + 1 : Nat) : Int) == 0) = false := by simp; omega
    have hw : w64 (((n + 1 : Nat) : Int) - 1) = (n : Int) := by rw [w64_id (by omega) (by omega)]; omega
    have hg : ∀ z, gsh (n : Int) z = some z := fun z => by unfold gsh; rw [if_neg (by omega)]
    have kl : ∀ k : Int, (∀ y ∈ flat (vPar v).2.1, y.1 ≠ k) ∨ (k < ((2 * b + 1) * 2 ^ n : Nat)) := fun k => by
      by_cases q : k < ((2 * b + 1) * 2 ^ n : Nat)
      · exact .inr q
      · refine .inl fun y hy e => ?_
        have := (e2.keys y hy).2.1; omega
    by_cases hlo : key < (2 * b + 1) * 2 ^ n
    · have hs0 := side_lo h1 hlo
      obtain ⟨v', r1, r2, r3⟩ := ih (by omega) (fuel := fuel) (v := (vPar v).2.1) (x := x) (by omega) e2 h1 hlo h3 hx
      refine ⟨.node .nil v' (vPar v).2.2, ?_, ⟨rfl, r2, e3⟩, fun k => ?_⟩
      · show M.impl_version_with_F _ _ _ _ _ = _
        unfold M.impl_version_with_F
        simp only [node_ok, Option.bind_some, hb0, cond_false, hw, hg, side_ok h3 (show n < 7 by omega), hs0]
        simp only [gsel2, if_pos, r1, Option.bind_some, bsel, Vr.mk, show (vPar v).1 = Po.nil by rw [e1], Int.ofNat_zero, Int.cast_ofNat_Int, if_true]
      · show atK (flat v' ++ flat (vPar v).2.2) k = _
        rw [e4, atK_app, atK_app, r3 k]
        by_cases hk : k = (key : Int)
        · rw [if_pos hk, if_pos hk]
          have : atK (flat (vPar v).2.2) k = none := atK_none fun y hy q => by have := (e3.keys y hy).1; omega
          rw [this, Option.or_none]
        · rw [if_neg hk, if_neg hk]
    · have hs1 := side_hi (by omega) h2
      obtain ⟨v', r1, r2, r3⟩ := ih (by omega) (fuel := fuel) (v := (vPar v).2.2) (x := x) (by omega) e3 (by omega) h2 h3 hx
      refine ⟨.node .nil (vPar v).2.1 v', ?_, ⟨rfl, e2, r2⟩, fun k => ?_⟩
      · show M.impl_version_with_F _ _ _ _ _ = _
        unfold M.impl_version_with_F
        simp only [node_ok, Option.bind_some, hb0, cond_false, hw, hg, side_ok h3 (show n < 7 by omega), hs1]
        simp only [gsel2, show ((1 : Nat) : Int) = 1 from rfl, show ¬ ((1 : Int) = 0) by decide, if_false, if_true, r1, Option.bind_some, bsel, Vr.mk, show (vPar v).1 = Po.nil by rw [e1]]
      · show atK (flat (vPar v).2.1 ++ flat v') k = _
        rw [e4, atK_app, atK_app, r3 k]
        by_cases hk : k = (key : Int)
        · rw [if_pos hk, if_pos hk]
          have : atK (flat (vPar v).2.1) k = none := atK_none fun y hy q => by have := (e2.keys y hy).2.1; omega
          rw [this, Option.none_or]
        · rw [if_neg hk, if_neg hk]
theorem okEn_iff {e : Ent} (h : okEn e = true) : (e.1 = 1 ∧ isItem e.2 = true) ∨ (e.1 = 2 ∧ (1 ≤ e.2.1 ∧ e.2.1 ≤ 99)) := by
  unfold okEn at h
  split at h
  · next q => exact .inl ⟨q, h⟩
  · simp only [Bool.and_eq_true, decide_eq_true_eq] at h
    exact .inr ⟨h.1, h.2.1⟩
theorem after_ok {v : Vr Item} {e : Ent} (he : okEn e = true) (hs : Sh 7 0 v) : ∃ v', M.impl_version_after v e = some v' ∧ Sh 7 0 v' ∧ ∀ k, atK (flat v') k = stepK k (atK (flat v) k) e := by
  unfold M.impl_version_after
  rcases okEn_iff he with ⟨h1, h2⟩ | ⟨h1, h2, h3⟩
  · have hk := (isItem_iff.1 h2).1
    have hl := isItem_len h2
    obtain ⟨key, hkey⟩ := Int.eq_ofNat_of_zero_le (show 0 ≤ e.2.1 by omega)
    obtain ⟨v', r1, r2, r3⟩ := with_ok 7 (Nat.le_refl _) (b := 0) (key := key) (fuel := 100) (v := v) (x := .to e.2) (by omega) hs (by omega) (by omega) (by omega) (fun y hy => by cases hy; exact ⟨hkey, by omega⟩)
    refine ⟨v', ?_, r2, fun k => ?_⟩
    · have : (e.1 == 2) = false := by rw [h1]; rfl
      simp only [this, cond_false, hkey]
      rw [← hkey]
      rw [← hkey] at r1
      show (M.impl_version_with 100 v e.2.1 7 (Po.to e.2)).bind _ = _
      rw [show (7 : Int) = ((7 : Nat) : Int) from rfl, r1]; rfl
    · rw [r3 k, ← hkey]
      unfold stepK
      by_cases q : k = e.2.1
      · rw [if_pos q, if_pos q.symm, if_pos h1]; rfl
      · rw [if_neg q, if_neg (fun w => q w.symm)]
  · obtain ⟨key, hkey⟩ := Int.eq_ofNat_of_zero_le (show 0 ≤ e.2.1 by omega)
    obtain ⟨v', r1, r2, r3⟩ := with_ok 7 (Nat.le_refl _) (b := 0) (key := key) (fuel := 100) (v := v) (x := .nil) (by omega) hs (by omega) (by omega) (by omega) (fun y hy => by cases hy)
    refine ⟨v', ?_, r2, fun k => ?_⟩
    · have : (e.1 == 2) = true := by rw [h1]; rfl
      simp only [this, cond_true, hkey]
      rw [show (7 : Int) = ((7 : Nat) : Int) from rfl, r1]; rfl
    · rw [r3 k, ← hkey]
      unfold stepK
      by_cases q : k = e.2.1
      · rw [if_pos q, if_pos q.symm, if_neg (by omega)]; rfl
      · rw [if_neg q, if_neg (fun w => q w.symm)]
noncomputable def vA (v : Vr Item) (e : Ent) : Vr Item := (M.impl_version_after v e).getD .nil
noncomputable def vW (log : List Ent) (i : Nat) : Vr Item := (log.take i).foldl vA .nil
theorem vW_succ {log : List Ent} {i : Nat} (h : i < log.length) : vW log (i + 1) = vA (vW log i) log[i] := by
  unfold vW
  rw [List.take_succ_eq_append_getElem h, List.foldl_append]; rfl
theorem vW_ok {log : List Ent} (ok : okLg log = true) : ∀ i, i ≤ log.length → Sh 7 0 (vW log i) ∧ ∀ k, atK (flat (vW log i)) k = finK k none (log.take i)
  | 0, _ => ⟨trivial, fun k => rfl⟩
  | i + 1, h => by
    obtain ⟨h1, h2⟩ := vW_ok ok i (by omega)
    have he := (okLg_iff.1 ok).1 _ (List.getElem_mem (show i < log.length by omega))
    obtain ⟨v', r1, r2, r3⟩ := after_ok he h1
    have e : vW log (i + 1) = v' := by rw [vW_succ (by omega)]; unfold vA; rw [r1]; rfl
    rw [e]
    refine ⟨r2, fun k => ?_⟩
    rw [r3 k, h2 k, List.take_succ_eq_append_getElem (by omega), finK_append]; rfl
theorem vW_step {log : List Ent} (ok : okLg log = true) {i : Nat} (h : i < log.length) : M.impl_version_after (vW log i) log[i] = some (vW log (i + 1)) := by
  have he := (okLg_iff.1 ok).1 _ (List.getElem_mem h)
  obtain ⟨v', r1, r2, r3⟩ := after_ok he (vW_ok ok i (by omega)).1
  rw [vW_succ h]; unfold vA; rw [r1]; rfl
theorem versions_ok {log : List Ent} {ts : List Int} (ok : okLg log = true) : M.impl_History_versions (log, ts) = some ((List.range (log.length + 1)).map (vW log)) := by
  unfold M.impl_History_versions
  have hl := (okLg_iff.1 ok).2
  have := loop_run (f := fun (s7 : (List (Vr Item)) × (Int)) => (bif decide (s7.2 < (log.length : Int)) then
      (gidx log s7.2).bind fun x12 =>
      (gidx s7.1 s7.2).bind fun x25 =>
      (M.impl_version_after x25 (x12.1, (x12.2.1, x12.2.2.1, x12.2.2.2))).bind fun r35 =>
      (gapp s7.1 ([r35] : List (Vr Item))).bind fun xs41 =>
      some (.inl (xs41, w64 (s7.2 + 1)))
     else
      some (.inr s7.1))) (r := (List.range (log.length + 1)).map (vW log)) log.length (fun i => ((List.range (i + 1)).map (vW log), (i : Int))) (fun i hi => by
    have hd : decide ((i : Int) < (log.length : Int)) = true := by simp; omega
    have hl2 : i < ((List.range (i + 1)).map (vW log)).length := by simp
    have hs := vW_step ok hi
    simp only [hd, cond_true, gidx_nat hi, gidx_nat hl2, Option.bind_some, List.getElem_map, List.getElem_range]
    rw [show M.impl_version_after (vW log i) (log[i].1, (log[i].2.1, log[i].2.2.1, log[i].2.2.2)) = some (vW log (i + 1)) from hs, Option.bind_some, gapp_ok (by simp; omega), Option.bind_some, w64_succ (by omega)]
    rw [List.range_succ (n := i + 1), List.map_append]; rfl) (by simp)
  simp only at this ⊢
  rw [show (([Vr.nil] : List (Vr Item)), (0 : Int)) = ((List.range (0 + 1)).map (vW log), ((0 : Nat) : Int)) from rfl, this]
  rfl
theorem appendTo_nil {fuel : Nat} (l : List Item) : M.impl_version_appendTo (fuel + 1) .nil l = some l := rfl
theorem appendTo_ok : ∀ (n : Nat) {b fuel : Nat} {v : Vr Item} {l : List Item}, n + 1 < fuel → Sh n b v → l.length + 2 ^ n ≤ 1048576 → M.impl_version_appendTo fuel v l = some (l ++ flat v) := by
  intro n
  induction n with
  | zero =>
    intro b fuel v l hf hs hl
    obtain ⟨fuel, rfl⟩ : ∃ m, fuel = m + 2 := ⟨fuel - 2, by omega⟩
    cases v with
    | nil => rw [appendTo_nil]; simp [flat]
    | node x lf rt =>
      obtain ⟨rfl, rfl, h⟩ := hs
      show M.impl_version_appendTo_F _ _ _ = _
      unfold M.impl_version_appendTo_F
      cases x with
      | nil => simp [Vr.isNil, Vr.get, Po.isNil, appendTo_nil, flat]
      | to y =>
        have hy := (h y rfl).2
        have hc := implCopy_ok hy
        simp only [Vr.isNil, Vr.get, Po.isNil, Po.get, cond_false, cond_true, Bool.not_false, Option.bind_some, hc]
        rw [gapp_ok (by simp; omega)]; rfl
  | succ n ih =>
    intro b fuel v l hf hs hl
    obtain ⟨fuel, rfl⟩ : ∃ m, fuel = m + 1 := ⟨fuel - 1, by omega⟩
    cases v with
    | nil => rw [appendTo_nil]; simp [flat]
    | node x lf rt =>
      obtain ⟨rfl, h1, h2⟩ := hs
      have hp : 2 ^ (n + 1) = 2 ^ n + 2 ^ n := by rw [Nat.pow_succ]; omega
      have hlen := h1.len
      show M.impl_version_appendTo_F _ _ _ = _
      unfold M.impl_version_appendTo_F
      simp only [Vr.isNil, Vr.get, Po.isNil, cond_false, Bool.not_true, Option.bind_some]
      rw [ih (by omega) h1 (by omega), Option.bind_some, ih (by omega) h2 (by simp; omega), Option.bind_some, List.append_assoc]
      rfl
theorem sorted_at {a b : List Item} (pa : a.Pairwise (fun x y => x.1 < y.1)) (pb : b.Pairwise (fun x y => x.1 < y.1)) (h : ∀ k, atK a k = atK b k) : a = b := by
  refine sorted_uniq pa pb fun x => ?_
  have h1 := atK_iff pa (k := x.1) (y := x)
  have h2 := atK_iff pb (k := x.1) (y := x)
  rw [h x.1] at h1
  exact ⟨fun hx => (h2.1 (h1.2 ⟨hx, rfl⟩)).1, fun hx => (h1.1 (h2.2 ⟨hx, rfl⟩)).1⟩
theorem flat_ok {h : Hist} (ok : okHi h = true) {n : Nat} (hn : n ≤ h.1.length) : flat (vW h.1 n) = (repL [] (h.1.take n)).1 := by
  obtain ⟨h1, h2, h3, h4⟩ := okHi_iff.1 ok
  obtain ⟨s1, s2⟩ := vW_ok h1 n hn
  have hd : (repL [] (h.1.take n)).2 = (h.1.take n).length := by rw [repL_take _ _ _ (by omega)]; simp; omega
  refine sorted_at s1.order (okStore_iff.1 (repL_ok (h.1.take n) okStore_nil)).2.2 fun k => ?_
  rw [s2 k, repL_at _ _ hd k]; rfl
theorem verAt_ok {h : Hist} (ok : okHi h = true) {n : Nat} (hn : n ≤ h.1.length) : gidx ((List.range (h.1.length + 1)).map (vW h.1)) (n : Int) = some (vW h.1 n) := by
  have hl2 : n < ((List.range (h.1.length + 1)).map (vW h.1)).length := by simp; omega
  rw [gidx_nat hl2]; simp
theorem implAt_ok {h : Hist} {t : Int} (s : SmallH h) : M.impl_StoreAt (h.1, h.2) t = some (storeAt h t) := by
  unfold M.impl_StoreAt storeAt
  have s2 := s.2
  simp only [implVHi_ok s.1 (by omega), implMom_ok, Option.bind_some]
  by_cases ok : okHi h = true
  · have hl := (okHi_iff.1 ok).2.1
    by_cases ht : 0 ≤ t ∧ t ≤ 1000
    · have hu := upT_le (ts := h.2) (t := t)
      have hn : upT h.2 t ≤ h.1.length := by omega
      rw [if_pos ⟨ok, ht⟩]
      simp only [ok, Bool.not_true, cond_false, ht, and_self, decide_true, Option.bind_some, versions_ok (okHi_iff.1 ok).1, implUntil_ok s.2 (okHi_sorted ok) ht.1 ht.2, verAt_ok ok hn]
      rw [appendTo_ok 7 (by omega) (vW_ok (okHi_iff.1 ok).1 _ hn).1 (by simp), Option.bind_some, flat_ok ok hn]; rfl
    · have : decide (0 ≤ t ∧ t ≤ 1000) = false := decide_eq_false ht
      rw [if_neg (fun q => ht q.2)]
      simp only [ok, Bool.not_true, cond_false, this, Option.bind_some, Bool.not_false, cond_true]
  · rw [if_neg (fun q => ok q.1)]
    simp only [Bool.not_eq_true] at ok
    simp [ok]
/-! ## Changed keys -/
end Go.Vs

namespace Go.Vs

theorem implVHi2_ok {h : Hist} (s : SmallH h) : M.impl_ValidHistory (h.1, h.2) = some (okHi h) := implVHi_ok s.1 (by have := s.2; omega)

theorem equalHist_ok {h g : Hist} (s : SmallH h) : M.laws_equalHistory (h.1, h.2) (g.1, g.2) = some (decide (h = g)) := by
  unfold M.laws_equalHistory
  have hs := s.2
  simp only [equalEntries_ok s.1, equalInts_ok (show h.2.length < 2000000 by omega), Option.bind_some]
  obtain ⟨h1, h2⟩ := h
  obtain ⟨g1, g2⟩ := g
  by_cases e : h1 = g1
  · simp [e, Prod.ext_iff]
  · simp [e, Prod.ext_iff]
theorem upT_all {ts : List Int} {t : Int} (h : ∀ x ∈ ts, x ≤ t) : upT ts t = ts.length := by
  unfold upT
  rw [List.countP_eq_length]
  intro x hx; simpa using h x hx
theorem upT_last {ts : List Int} {t s : Int} (h : s < t) : upT (ts ++ [t]) s = upT ts s := by
  unfold upT
  rw [List.countP_append]
  have : ¬ t ≤ s := by omega
  simp [this]
theorem storeAt_of {h : Hist} {t : Int} (ok : okHi h = true) (ht : 0 ≤ t ∧ t ≤ 1000) : storeAt h t = (repL [] (h.1.take (upT h.2 t))).1 := if_pos ⟨ok, ht⟩
theorem storeAt_near {h : Hist} {t : Int} : SmallS (storeAt h t) := okStore_small storeAt_ok
theorem addV_small {h : Hist} {e : Ent} {t : Int} : SmallH (addV h e t).1 := addV_near.small
theorem addV_some {h : Hist} {e : Ent} {t : Int} (ht : (addV h e t).2 = true) : okHi h = true ∧ okEn e = true ∧ okHi (h.1 ++ [e], h.2 ++ [t]) = true ∧ (addV h e t).1 = (h.1 ++ [e], h.2 ++ [t]) := by
  unfold addV at ht ⊢
  split at ht
  · rename_i q
    exact ⟨q.1, q.2.1, q.2.2, by rw [if_pos q]⟩
  · simp at ht
theorem drawAE' (code : List UInt8) : ∃ (h : Hist) (e : Ent) (t : Int), M.spec_DrawAddEntry code = some ((h.1, h.2), (e.1, (e.2.1, e.2.2.1, e.2.2.2)), t) ∧ SmallH h ∧ h.1.length ≤ 35 ∧ e.2.2.1.length ≤ 5 := by
  obtain ⟨h, e, t, hd, n, he⟩ := drawAE_ok code
  exact ⟨h, e, t, hd, n.small, n.1, he⟩
theorem law_AddEntry (code : List UInt8) : M.laws_FnAddEntry code = some true := by
  unfold M.laws_FnAddEntry
  by_cases hc : 1048576 < (code.length : Int)
  · simp [hc]
  obtain ⟨h, e, t, hd, s, hn35, he⟩ := drawAE' code
  have he' : e.2.2.1.length ≤ 1048576 := by omega
  simp only [hc, decide_false, cond_false, hd, Option.bind_some, specAdd_ok s he', implAdd_ok s (by omega) he', equalHist_ok addV_small, decide_true, Bool.not_true, bne_self_eq_false]
  cases ht : (addV h e t).2 with
  | false => simp
  | true =>
    obtain ⟨ok, oe, ok', ev⟩ := addV_some ht
    obtain ⟨h1, h2, h3, h4⟩ := okHi_iff.1 ok
    obtain ⟨g1, g2, g3, g4⟩ := okHi_iff.1 ok'
    obtain ⟨ta, tp⟩ := okTimes_iff.1 g3
    simp only at g1 g2 g3 g4 ta tp
    have tr : 1 ≤ t ∧ t ≤ 1000 := ta t (by simp)
    have ew : w64 (t - 1) = t - 1 := w64_id (by omega) (by omega)
    have tmax : ∀ x ∈ h.2 ++ [t], x ≤ t := by
      intro x hx
      rcases List.mem_append.1 hx with hx | hx
      · exact (List.pairwise_append.1 tp).2.2 x hx t (by simp)
      · simp at hx; omega
    have s' : SmallH (h.1 ++ [e], h.2 ++ [t]) := okHi_small ok'
    have hx : storeAt (h.1 ++ [e], h.2 ++ [t]) t = (repL [] (h.1 ++ [e])).1 := by
      rw [storeAt_of ok' (by omega)]
      simp only
      rw [upT_all tmax, g2, List.take_length]
    have hy : storeAt (h.1 ++ [e], h.2 ++ [t]) (t - 1) = storeAt h (t - 1) := by
      rw [storeAt_of ok' (by omega), storeAt_of ok (by omega)]
      simp only
      have hu := upT_le (ts := h.2) (t := t - 1)
      rw [upT_last (by omega), List.take_append_of_le_length (by omega)]
    have hat := repL_at (h.1 ++ [e]) [] g4 e.2.1
    rw [finK_append] at hat
    have hst : finK e.2.1 (finK e.2.1 (atK [] e.2.1) h.1) [e] = if e.1 = 1 then some e.2 else none := by
      show stepK e.2.1 _ e = _
      unfold stepK; rw [if_pos rfl]
    rw [hst] at hat
    have oR := repL_ok (h.1 ++ [e]) okStore_nil
    have sR := okStore_small oR
    have a1 := implAt_ok (t := t) s'
    have a2 := implAt_ok (t := t - 1) s'
    have a3 := implVHi2_ok s'
    simp only at a1 a2 a3
    simp only [Bool.not_true, cond_false, Option.bind_some, ev, a1, a2, a3, specAt_ok s, implAt_ok s, ew, hx, hy, equalItems_ok storeAt_near, decide_true, cond_true, implGet_ok sR, getItem_at oR, ok']
    by_cases e1 : e.1 = 1
    · rw [if_pos e1] at hat
      rw [hat]
      simp [e1, equalItem_ok (x := e.2) (y := e.2) (by omega)]
    · rw [if_neg e1] at hat
      rw [hat]
      have : (e.1 == 1) = false := by simpa using e1
      simp [this]
end Go.Vs
