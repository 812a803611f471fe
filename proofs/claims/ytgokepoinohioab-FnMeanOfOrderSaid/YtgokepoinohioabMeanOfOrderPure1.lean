/- Plain facts of what the functions compute. -/
import Derived.Test.YtgokepoinohioabMeanOfOrderEng1
import Derived.Test.YtgokepoinohioabMeanOfOrderLib1
set_option linter.unusedVariables false
set_option linter.unusedSimpArgs false
namespace Go.Vs

theorem loop_run {S R : Type} {f : S → Option (S ⊕ R)} {r : R} (k : Nat) (st : Nat → S) (hs : ∀ i, i < k → f (st i) = some (.inl (st (i + 1)))) (he : f (st k) = some (.inr r)) : loopM f (st 0) = some r := by
  induction k generalizing st with
  | zero => rw [loopM_eq, he]; rfl
  | succ k ih =>
    rw [loopM_eq, hs 0 (by omega)]
    exact ih (fun i => st (i + 1)) (fun i hi => hs (i + 1) (by omega)) he

theorem w64_nat {n : Nat} (h : n < 9223372036854775808) : w64 (n : Int) = n := w64_id (by omega) (by omega)
theorem gidx_nat {α : Type} {xs : List α} {i : Nat} (h : i < xs.length) : gidx xs (i : Int) = some xs[i] := by
  unfold gidx
  rw [if_pos (by omega)]
  simp [h]
theorem gidx_lt' {α : Type} {xs : List α} {a : Int} (h0 : 0 ≤ a) (h : a < xs.length) : ∃ e, gidx xs a = some e ∧ e ∈ xs := by
  obtain ⟨n, rfl⟩ := Int.eq_ofNat_of_zero_le h0
  have hn : n < xs.length := by omega
  exact ⟨xs[n], gidx_nat hn, List.getElem_mem _⟩
theorem gapp_ok {α : Type} {xs ys : List α} (h : xs.length + ys.length ≤ 2147483648) : gapp xs ys = some (xs ++ ys) := by unfold gapp; rw [if_pos h]
theorem grem_ok {a b : Int} (h : b ≠ 0) : grem a b = some (a.tmod b) := by unfold grem; rw [if_neg h]
theorem gquo_ok {a b : Int} (h : b ≠ 0) : gquo a b = some (w64 (a.tdiv b)) := by unfold gquo; rw [if_neg h]
theorem gslice_ok {α : Type} {xs : List α} {l h : Int} (h0 : 0 ≤ l) (h1 : l ≤ h) (h2 : h ≤ xs.length) : gslice xs l h = some ((xs.take h.toNat).drop l.toNat) := by
  unfold gslice; rw [if_pos ⟨h0, h1, h2⟩]
theorem tmod_range {a b : Int} (ha : 0 ≤ a) (hb : 0 < b) : 0 ≤ a.tmod b ∧ a.tmod b < b := by
  rw [Int.tmod_eq_emod_of_nonneg ha]
  exact ⟨Int.emod_nonneg _ (by omega), Int.emod_lt_of_pos _ hb⟩
theorem tdiv_range {a b : Int} (ha : 0 ≤ a) (hb : 0 < b) : 0 ≤ a.tdiv b ∧ a.tdiv b ≤ a := by
  rw [Int.tdiv_eq_ediv_of_nonneg ha]
  exact ⟨Int.ediv_nonneg ha (by omega), Int.ediv_le_self _ ha⟩
theorem gxor_range {a b : Int} (ha : 0 ≤ a) (ha' : a < 4611686018427387904) (hb : 0 ≤ b) (hb' : b < 4611686018427387904) : 0 ≤ gxor a b ∧ gxor a b < 4611686018427387904 := by
  obtain ⟨m, rfl⟩ := Int.eq_ofNat_of_zero_le ha
  obtain ⟨n, rfl⟩ := Int.eq_ofNat_of_zero_le hb
  have h1 : (BitVec.ofInt 64 (m : Int) ^^^ BitVec.ofInt 64 (n : Int)).toNat = m ^^^ n := by
    rw [BitVec.toNat_xor]
    have e : ∀ k : Nat, k < 4611686018427387904 → (BitVec.ofInt 64 (k : Int)).toNat = k := by
      intro k hk
      simp only [BitVec.toNat_ofInt]
      omega
    rw [e m (by omega), e n (by omega)]
  have h2 : m ^^^ n < 2 ^ 62 := Nat.xor_lt_two_pow (by omega) (by omega)
  have h3 : (2 : Nat) ^ 62 = 4611686018427387904 := by decide
  unfold gxor
  rw [h1]
  have : w64 ((m ^^^ n : Nat) : Int) = (m ^^^ n : Nat) := w64_nat (by omega)
  show 0 ≤ w64 _ ∧ w64 _ < _
  rw [this]
  omega
/-- A loop that looks at each element, and leaves at the first that fails. -/
theorem loop_all {α R : Type} {xs : List α} {P : α → Bool} {r : R} {f : Int → Option (Int ⊕ (Unit ⊕ R))} (hs : ∀ i (h : i < xs.length), f (i : Int) = some (if P xs[i] then .inl ((i : Int) + 1) else .inr (.inr r))) (he : f (xs.length : Int) = some (.inr (.inl ()))) :
    loopM f 0 = some (if xs.all P then .inl () else .inr r) := by
  have key : ∀ m k : Nat, k + m = xs.length → loopM f (k : Int) = some (if (xs.drop k).all P then .inl () else .inr r) := by
    intro m
    induction m with
    | zero =>
      intro k hk
      have : k = xs.length := by omega
      subst this
      rw [loopM_eq, he]; simp [selim]
    | succ m ih =>
      intro k hk
      have hlt : k < xs.length := by omega
      rw [loopM_eq, hs k hlt, List.drop_eq_getElem_cons hlt]
      by_cases hp : P xs[k] = true
      · rw [if_pos hp]
        have := ih (k + 1) (by omega)
        simp only [Int.natCast_add, Int.cast_ofNat_Int] at this
        simp only [List.all_cons, hp, Bool.true_and, selim, this, Option.bind_some]
      · rw [if_neg hp]
        simp only [List.all_cons, Bool.not_eq_true] at hp ⊢
        simp only [hp, Bool.false_and, selim, Option.bind_some]; rfl
  have := key xs.length 0 (by omega)
  simpa using this
end Go.Vs

namespace Go.Vs

/-- A reader that has been asked at most k times. -/
def Good (k : Nat) (r : List UInt8 × Int) : Prop := r.1.length ≤ 2000 ∧ 0 ≤ r.2 ∧ r.2 ≤ k
theorem Good.mono {k m : Nat} {r : List UInt8 × Int} (h : Good k r) (hm : k ≤ m) : Good m r := ⟨h.1, h.2.1, by have := h.2.2; omega⟩

theorem pick_ok {k : Nat} (hk : k ≤ 1000000) {r : List UInt8 × Int} (hr : Good k r) (n : Int) :
    ∃ x r', M.spec_reader_pick r n = some (x, r') ∧ Good (k + 1) r' ∧ 0 ≤ x ∧ (1 ≤ n → x < n) ∧ (n < 1 → x = 0) := by
  obtain ⟨b, p⟩ := r
  obtain ⟨h1, h2, h3⟩ := hr
  simp only at h1 h2 h3
  have e1 : w64 (p + 1) = p + 1 := w64_id (by omega) (by omega)
  have e2 : w64 (p + 1 - 1) = p := by rw [w64_id (by omega) (by omega)]; omega
  have hgood : Good (k + 1) (b, p + 1) := ⟨h1, by simp only; omega, by simp only; omega⟩
  unfold M.spec_reader_pick
  simp only [e1, e2]
  by_cases hn : n < 1
  · refine ⟨0, (b, p + 1), ?_, hgood, by omega, fun h => by omega, fun _ => rfl⟩
    simp [hn]
  · by_cases hb : b.length = 0
    · refine ⟨0, (b, p + 1), ?_, hgood, by omega, fun h => by omega, fun _ => rfl⟩
      simp [hn, hb]
    · have hbl : (b.length : Int) ≠ 0 := by omega
      have hbb : ((b.length : Int) == 0) = false := by simpa using hb
      simp only [hn, decide_false, cond_false, hbb, Option.bind_some]
      by_cases hp : p < (b.length : Int)
      · obtain ⟨e, he, _⟩ := gidx_lt' (xs := b) h2 hp
        have hE : w64 (e.toNat : Int) = e.toNat := w64_nat (by have := e.toNat_lt; omega)
        have hr := tmod_range (a := (e.toNat : Int)) (b := n) (by omega) (by omega)
        refine ⟨_, (b, p + 1), ?_, hgood, hr.1, fun _ => hr.2, fun h => h.elim⟩
        simp only [hp, decide_true, cond_true, he, Option.bind_some, hE, grem_ok (show n ≠ 0 by omega)]
      · simp only [hp, decide_false, cond_false]
        have hbp : 0 < (b.length : Int) := by omega
        have r1 := tmod_range (a := p) h2 hbp
        have e7 : w64 (w64 (p * 7) + 3) = p * 7 + 3 := by rw [w64_id (n := p * 7) (by omega) (by omega), w64_id (by omega) (by omega)]
        have r2 := tmod_range (a := p * 7 + 3) (b := (b.length : Int)) (by omega) hbp
        obtain ⟨x, hx, _⟩ := gidx_lt' (xs := b) r1.1 r1.2
        obtain ⟨y, hy, _⟩ := gidx_lt' (xs := b) r2.1 r2.2
        have hX : (x.toNat : Int) < 256 := by have := x.toNat_lt; omega
        have hY : (y.toNat : Int) < 256 := by have := y.toNat_lt; omega
        have r3 := tdiv_range (a := p) (b := (b.length : Int)) h2 hbp
        simp only [grem_ok hbl, Option.bind_some, hx, e7, hy, gquo_ok hbl]
        generalize hq : w64 (p.tdiv (b.length : Int)) = q
        have hq' : 0 ≤ q ∧ q ≤ 1000000 := by rw [← hq, w64_id (by omega) (by omega)]; omega
        have eX : w64 (x.toNat : Int) = x.toNat := w64_id (by omega) (by omega)
        have eY : w64 (y.toNat : Int) = y.toNat := w64_id (by omega) (by omega)
        simp only [eX, eY]
        have eX' : w64 ((x.toNat : Int) * 131) = x.toNat * 131 := w64_id (by omega) (by omega)
        have eY' : w64 ((y.toNat : Int) * 1117) = y.toNat * 1117 := w64_id (by omega) (by omega)
        have eP : w64 (p * 29) = p * 29 := w64_id (by omega) (by omega)
        have eQ : w64 (q * 53) = q * 53 := w64_id (by omega) (by omega)
        simp only [eX', eY', eP, eQ]
        have eA : w64 ((x.toNat : Int) * 131 + y.toNat * 1117) = x.toNat * 131 + y.toNat * 1117 := w64_id (by omega) (by omega)
        simp only [eA]
        have eB : w64 ((x.toNat : Int) * 131 + y.toNat * 1117 + p * 29) = x.toNat * 131 + y.toNat * 1117 + p * 29 := w64_id (by omega) (by omega)
        simp only [eB]
        have eC : w64 ((x.toNat : Int) * 131 + y.toNat * 1117 + p * 29 + q * 53) = x.toNat * 131 + y.toNat * 1117 + p * 29 + q * 53 := w64_id (by omega) (by omega)
        simp only [eC]
        generalize hZ : (x.toNat : Int) * 131 + y.toNat * 1117 + p * 29 + q * 53 = Z
        have hZ' : 0 ≤ Z ∧ Z ≤ 1000000000 := by omega
        have r4 := tdiv_range (a := Z) (b := 64) hZ'.1 (by omega)
        have eD : w64 (Z.tdiv 64) = Z.tdiv 64 := w64_id (by omega) (by omega)
        rw [eD]
        have r5 := gxor_range (a := Z) (b := Z.tdiv 64) (by omega) (by omega) (by omega) (by omega)
        have r6 := tmod_range (a := gxor Z (Z.tdiv 64)) (b := n) r5.1 (by omega)
        refine ⟨_, (b, p + 1), ?_, hgood, r6.1, fun _ => r6.2, fun h => h.elim⟩
        simp only [grem_ok (show n ≠ 0 by omega), Option.bind_some]

theorem one_ok {k : Nat} (hk : k ≤ 1000000) {r : List UInt8 × Int} (hr : Good k r) {list : List Int} (hl : list ≠ []) :
    ∃ x r', M.spec_reader_one r list = some (x, r') ∧ Good (k + 1) r' ∧ x ∈ list := by
  obtain ⟨x, r', h1, h2, h3, h4, _⟩ := pick_ok hk hr (list.length : Int)
  have hlen : 1 ≤ (list.length : Int) := by
    have : list.length ≠ 0 := by simpa using hl
    omega
  obtain ⟨e, he, hm⟩ := gidx_lt' h3 (h4 hlen)
  refine ⟨e, r', ?_, h2, hm⟩
  unfold M.spec_reader_one
  simp only [h1, Option.bind_some, he]

theorem coord_ok {k : Nat} (hk : k ≤ 900000) {r : List UInt8 × Int} (hr : Good k r) :
    ∃ x r', M.spec_someCoord r = some (x, r') ∧ Good (k + 3) r' ∧ -100 ≤ x ∧ x ≤ 100 := by
  obtain ⟨x1, r1, h1, g1, a1, b1, _⟩ := pick_ok (by omega) hr 201
  obtain ⟨x2, r2, h2, g2, a2, b2, _⟩ := pick_ok (by omega) g1 21
  have b1 := b1 (by omega)
  have b2 := b2 (by omega)
  have e1 : w64 (x1 - 100) = x1 - 100 := w64_id (by omega) (by omega)
  have e2 : w64 (x2 - 10) = x2 - 10 := w64_id (by omega) (by omega)
  obtain ⟨x3, r3, h3, g3, m3⟩ := one_ok (by omega) g2 (list := [0, 1, -1, 5, -7, 10, 3, 100, -100, x1 - 100, x2 - 10]) (by simp)
  refine ⟨x3, r3, ?_, g3, ?_⟩
  · unfold M.spec_someCoord
    simp only [h1, Option.bind_some, h2, e1, e2, h3]
  · simp only [List.mem_cons, List.not_mem_nil, or_false] at m3
    omega

/-- A valid vector. -/
def isVec (v : List Int) : Bool := decide (v.length = 4) && v.all fun x => decide (-100 ≤ x) && decide (x ≤ 100)
theorem isVec_iff {v : List Int} : isVec v = true ↔ v.length = 4 ∧ ∀ x ∈ v, -100 ≤ x ∧ x ≤ 100 := by
  unfold isVec; simp
theorem isVec_four {v : List Int} (h : isVec v = true) : ∃ a b c d, v = [a, b, c, d] ∧ (-100 ≤ a ∧ a ≤ 100) ∧ (-100 ≤ b ∧ b ≤ 100) ∧ (-100 ≤ c ∧ c ≤ 100) ∧ (-100 ≤ d ∧ d ≤ 100) := by
  obtain ⟨h1, h2⟩ := isVec_iff.1 h
  match v, h1 with
  | [a, b, c, d], _ => exact ⟨a, b, c, d, rfl, h2 a (by simp), h2 b (by simp), h2 c (by simp), h2 d (by simp)⟩

theorem vector_ok {k : Nat} (hk : k ≤ 800000) {r : List UInt8 × Int} (hr : Good k r) :
    ∃ v r', M.spec_someVector r = some (v, r') ∧ Good (k + 12) r' ∧ isVec v = true := by
  obtain ⟨x1, r1, h1, g1, a1, b1⟩ := coord_ok (by omega) hr
  obtain ⟨x2, r2, h2, g2, a2, b2⟩ := coord_ok (by omega) g1
  obtain ⟨x3, r3, h3, g3, a3, b3⟩ := coord_ok (by omega) g2
  obtain ⟨x4, r4, h4, g4, a4, b4⟩ := coord_ok (by omega) g3
  refine ⟨[x1, x2, x3, x4], r4, ?_, g4, isVec_iff.2 ⟨rfl, by simp only [List.mem_cons, List.not_mem_nil, or_false]; rintro x (rfl | rfl | rfl | rfl) <;> omega⟩⟩
  have e : ∀ n : Nat, n < 10 → w64 ((n : Int) + 1) = (n : Int) + 1 := fun n hn => w64_id (by omega) (by omega)
  have e0 : w64 ((0 : Int) + 1) = 1 := e 0 (by omega)
  have e1 : w64 ((1 : Int) + 1) = 2 := e 1 (by omega)
  have e2 : w64 ((2 : Int) + 1) = 3 := e 2 (by omega)
  have e3 : w64 ((3 : Int) + 1) = 4 := e 3 (by omega)
  have ga : ∀ (xs : List Int) (x : Int), xs.length < 10 → gapp xs [x] = some (xs ++ [x]) := fun xs x hx => gapp_ok (by simp; omega)
  unfold M.spec_someVector
  rw [loopM_eq]
  simp only [show decide ((0 : Int) < 4) = true from rfl, cond_true, h1, Option.bind_some, ga [] x1 (by simp), selim, e0, List.nil_append]
  rw [loopM_eq]
  simp only [show decide ((1 : Int) < 4) = true from rfl, cond_true, h2, Option.bind_some, ga [x1] x2 (by simp), selim, e1, List.cons_append, List.nil_append]
  rw [loopM_eq]
  simp only [show decide ((2 : Int) < 4) = true from rfl, cond_true, h3, Option.bind_some, ga [x1, x2] x3 (by simp), selim, e2, List.cons_append, List.nil_append]
  rw [loopM_eq]
  simp only [show decide ((3 : Int) < 4) = true from rfl, cond_true, h4, Option.bind_some, ga [x1, x2, x3] x4 (by simp), selim, e3, List.cons_append, List.nil_append]
  rw [loopM_eq]
  simp only [show decide ((4 : Int) < 4) = false from rfl, cond_false, Option.bind_some, selim]
end Go.Vs
namespace Go.Vs
/-- A vector that may be drawn. -/
def Near (v : List Int) : Prop := v.length ≤ 5 ∧ ∀ x ∈ v, -101 ≤ x ∧ x ≤ 101
theorem near_of {v : List Int} (h : isVec v = true) : Near v := by
  obtain ⟨h1, h2⟩ := isVec_iff.1 h
  exact ⟨by omega, fun x hx => by have := h2 x hx; omega⟩
theorem copy_ok {v : List Int} (h : v.length ≤ 1000000) : M.spec_copyInts v = some v := by
  unfold M.spec_copyInts
  rw [gapp_ok (by simp; omega)]; rfl
theorem spoil_ok {k : Nat} (hk : k ≤ 700000) {r : List UInt8 × Int} (hr : Good k r) {v : List Int} (hv : isVec v = true) :
    ∃ u r', M.spec_reader_spoil r v 101 = some (u, r') ∧ Good (k + 3) r' ∧ Near u := by
  obtain ⟨hl, hb⟩ := isVec_iff.1 hv
  obtain ⟨x1, r1, h1, g1, a1, b1, _⟩ := pick_ok (by omega) hr 20
  unfold M.spec_reader_spoil
  simp only [copy_ok (v := v) (by omega), Option.bind_some, h1]
  by_cases c0 : x1 = 0
  · refine ⟨v ++ [101], r1, ?_, g1.mono (by omega), ?_⟩
    · simp [c0, gapp_ok (xs := v) (ys := [101]) (by simp; omega)]
    · refine ⟨by simp; omega, fun x hx => ?_⟩
      rcases List.mem_append.1 hx with h | h
      · have := hb x h; omega
      · simp at h; omega
  · have e0 : (x1 == 0) = false := by simpa using c0
    simp only [e0, cond_false]
    have hpos : decide (0 < (v.length : Int)) = true := by simp; omega
    have hp' : 0 < v.length := by omega
    by_cases c1 : x1 = 1
    · refine ⟨v.drop 1, r1, ?_, g1.mono (by omega), by simp; omega, fun x hx => ?_⟩
      · have : gslice v 1 (v.length : Int) = some (v.drop 1) := by
          rw [gslice_ok (by omega) (by omega) (by omega)]; simp
        simp [c1, hp', this]
      · have := hb x (List.mem_of_mem_drop hx); omega
    · have e1 : (x1 == 1) = false := by simpa using c1
      simp only [e1, cond_false]
      by_cases c2 : x1 = 2
      · obtain ⟨i, r2, h2, g2, a2, b2, _⟩ := pick_ok (by omega) g1 (v.length : Int)
        obtain ⟨y, r3, h3, g3, m3⟩ := one_ok (by omega) g2 (list := [-1, 101, 0, 1]) (by simp)
        have b2 := b2 (by omega)
        obtain ⟨z, hz, _⟩ := gidx_lt' (xs := v) a2 b2
        refine ⟨v.set i.toNat y, r3, ?_, g3, by simp; omega, fun x hx => ?_⟩
        · simp [c2, hp', h2, h3, hz]
        · rcases List.mem_or_eq_of_mem_set hx with h | h
          · have := hb x h; omega
          · subst h
            simp only [List.mem_cons, List.not_mem_nil, or_false] at m3
            omega
      · have e2 : (x1 == 2) = false := by simpa using c2
        exact ⟨v, r1, by simp [e2], g1.mono (by omega), near_of hv⟩
theorem any_ok {k : Nat} (hk : k ≤ 600000) {r : List UInt8 × Int} (hr : Good k r) :
    ∃ v r', M.spec_anyVector r = some (v, r') ∧ Good (k + 16) r' ∧ Near v := by
  obtain ⟨x1, r1, h1, g1, a1, b1, _⟩ := pick_ok (by omega) hr 10
  obtain ⟨v, r2, h2, g2, hv⟩ := vector_ok (by omega) g1
  unfold M.spec_anyVector
  simp only [h1, Option.bind_some]
  by_cases c0 : x1 = 0
  · obtain ⟨u, r3, h3, g3, hu⟩ := spoil_ok (by omega) g2 hv
    exact ⟨u, r3, by simp [c0, h2, h3], g3, hu⟩
  · have e0 : (x1 == 0) = false := by simpa using c0
    exact ⟨v, r2, by simp [e0, h2], g2.mono (by omega), near_of hv⟩
theorem newReader_ok (code : List UInt8) : ∃ r, M.spec_newReader code = some r ∧ Good 0 r := by
  unfold M.spec_newReader
  by_cases h : 2000 < (code.length : Int)
  · refine ⟨(code.take 2000, 0), ?_, by simp; omega, by simp, by simp⟩
    have : gslice code 0 2000 = some (code.take 2000) := by
      rw [gslice_ok (by omega) (by omega) (by omega)]; simp
    simp [h, this]
  · exact ⟨(code, 0), by simp [h], by simp only; omega, by simp, by simp⟩

theorem implCoords_ok (v : List Int) (hb : v.length < 2000000) : M.impl_validCoords v = some (v.all fun x => decide (-100 ≤ x) && decide (x ≤ 100)) := by
  unfold M.impl_validCoords
  rw [loop_all (xs := v) (P := fun x => decide (-100 ≤ x) && decide (x ≤ 100)) (r := false)]
  · by_cases ha : (v.all fun x => decide (-100 ≤ x) && decide (x ≤ 100)) = true
    · simp only [ha, if_true, Option.bind_some, selim]
    · simp only [Bool.not_eq_true] at ha
      simp only [ha]; simp [selim]
  · intro i h
    have e1 : decide ((i : Int) < (v.length : Int)) = true := by simpa using h
    have e2 : w64 ((i : Int) + 1) = (i : Int) + 1 := w64_id (by omega) (by omega)
    simp only [e1, cond_true, gidx_nat h, Option.bind_some, e2]
    by_cases c1 : v[i] < -100
    · have c2 : ¬ (-100 ≤ v[i]) := by omega
      simp [c1, c2]
    · by_cases c3 : 100 < v[i]
      · have c4 : ¬ (v[i] ≤ 100) := by omega
        simp [c1, c3, c4]
      · simp [c1, c3, show -100 ≤ v[i] by omega, show v[i] ≤ 100 by omega]
  · simp
theorem impl_valid (v : List Int) (hb : v.length < 2000000) : M.impl_ValidVector v = some (isVec v) := by
  unfold M.impl_ValidVector
  simp only [implCoords_ok v hb, Option.bind_some]
  unfold isVec
  by_cases hl : v.length = 4
  · have e : ((v.length : Int) == 4) = true := by simp; omega
    rw [e, cond_true, decide_eq_true hl, Bool.true_and]
  · have e : ((v.length : Int) == 4) = false := by simp; omega
    rw [e, cond_false, decide_eq_false hl, Bool.false_and]
theorem spec_inR (n l h : Int) : M.spec_inRange n l h = some (decide (l ≤ n) && decide (n ≤ h)) := by
  unfold M.spec_inRange
  by_cases h1 : l ≤ n <;> simp [h1]
theorem spec_all (v : List Int) (l h : Int) (hb : v.length < 2000000) : M.spec_allIn v l h = some (v.all fun x => decide (l ≤ x) && decide (x ≤ h)) := by
  unfold M.spec_allIn
  rw [loop_all (xs := v) (P := fun x => decide (l ≤ x) && decide (x ≤ h)) (r := false)]
  · by_cases ha : (v.all fun x => decide (l ≤ x) && decide (x ≤ h)) = true
    · simp only [ha, if_true, Option.bind_some, selim]
    · simp only [Bool.not_eq_true] at ha
      simp [ha, selim]
  · intro i hi
    have e1 : decide ((i : Int) < (v.length : Int)) = true := by simpa using hi
    have e2 : w64 ((i : Int) + 1) = (i : Int) + 1 := w64_id (by omega) (by omega)
    simp only [e1, cond_true, gidx_nat hi, Option.bind_some, e2, spec_inR]
    cases (decide (l ≤ v[i]) && decide (v[i] ≤ h)) <;> rfl
  · simp
theorem spec_isVec (v : List Int) (hb : v.length < 2000000) : M.spec_isVector v = some (isVec v) := by
  unfold M.spec_isVector
  by_cases hl : v.length = 4
  · have e : ((v.length : Int) == 4) = true := by simp; omega
    simp [e, spec_all v _ _ hb, isVec, hl]
  · have e : ((v.length : Int) == 4) = false := by simp; omega
    simp [e, isVec, hl]
end Go.Vs

namespace Go.Vs

end Go.Vs

namespace Go.Vs

theorem loop4 {S R : Type} {f : S → Option (S ⊕ R)} {s0 s1 s2 s3 s4 : S} {r : R} (h0 : f s0 = some (.inl s1)) (h1 : f s1 = some (.inl s2)) (h2 : f s2 = some (.inl s3)) (h3 : f s3 = some (.inl s4)) (h4 : f s4 = some (.inr r)) : loopM f s0 = some r := by
  rw [loopM_eq, h0, Option.bind_some, selim, loopM_eq, h1, Option.bind_some, selim, loopM_eq, h2, Option.bind_some, selim, loopM_eq, h3, Option.bind_some, selim, loopM_eq, h4]; rfl
theorem gi0 {α : Type} {a : α} {l : List α} : gidx (a :: l) 0 = some a := gidx_nat (i := 0) (by simp)
theorem gi1 {α : Type} {a b : α} {l : List α} : gidx (a :: b :: l) 1 = some b := gidx_nat (i := 1) (by simp)
theorem gi2 {α : Type} {a b c : α} {l : List α} : gidx (a :: b :: c :: l) 2 = some c := gidx_nat (i := 2) (by simp)
theorem gi3 {α : Type} {a b c d : α} {l : List α} : gidx (a :: b :: c :: d :: l) 3 = some d := gidx_nat (i := 3) (by simp)
theorem i01 : w64 ((0 : Int) + 1) = 1 := w64_id (by omega) (by omega)
theorem i12 : w64 ((1 : Int) + 1) = 2 := w64_id (by omega) (by omega)
theorem i23 : w64 ((2 : Int) + 1) = 3 := w64_id (by omega) (by omega)
theorem i34 : w64 ((3 : Int) + 1) = 4 := w64_id (by omega) (by omega)
theorem d04 : decide ((0 : Int) < 4) = true := rfl
theorem d14 : decide ((1 : Int) < 4) = true := rfl
theorem d24 : decide ((2 : Int) < 4) = true := rfl
theorem d34 : decide ((3 : Int) < 4) = true := rfl
theorem d44 : decide ((4 : Int) < 4) = false := rfl
theorem l4 {α : Type} {a b c d : α} : (([a, b, c, d] : List α).length : Int) = 4 := rfl

/-- A coordinate. -/
def Co (x : Int) : Prop := -100 ≤ x ∧ x ≤ 100
end Go.Vs

namespace Go.Vs

theorem isVec_cut {v : List Int} (h : isVec v = true) : ∃ a b c d, v = [a, b, c, d] ∧ Co a ∧ Co b ∧ Co c ∧ Co d := isVec_four h

theorem equalInts_ok {a b : List Int} (ha : a.length < 2000000) : M.laws_equalInts a b = some (decide (a = b)) := by
  unfold M.laws_equalInts
  by_cases hl : a.length = b.length
  · have e : ((a.length : Int) != (b.length : Int)) = false := by simp; omega
    simp only [e, cond_false]
    rw [loop_all (xs := a.zip b) (P := fun p => p.1 == p.2) (r := false)]
    · by_cases h : a = b
      · subst h
        have : (a.zip a).all (fun p => p.1 == p.2) = true := by
          rw [List.all_eq_true]; intro p hp
          obtain ⟨i, hi, rfl⟩ := List.mem_iff_getElem.1 hp
          simp
        rw [if_pos this]; simp [selim]
      · have : ¬ (a.zip b).all (fun p => p.1 == p.2) = true := by
          intro hh; apply h
          apply List.ext_getElem hl
          intro i h1 h2
          rw [List.all_eq_true] at hh
          have := hh (a[i], b[i]) (List.mem_iff_getElem.2 ⟨i, by simp; omega, by simp⟩)
          simpa using this
        rw [if_neg this]; simp [selim, h]
    · intro i hi
      have hi1 : i < a.length := by simp at hi; omega
      have hi2 : i < b.length := by simp at hi; omega
      have e1 : decide ((i : Int) < (a.length : Int)) = true := by simpa using hi1
      have e2 : w64 ((i : Int) + 1) = (i : Int) + 1 := w64_id (by omega) (by omega)
      simp only [e1, cond_true, gidx_nat hi1, gidx_nat hi2, Option.bind_some, e2, List.getElem_zip]
      by_cases hc : a[i] = b[i]
      · simp [hc]
      · have hb : (a[i] == b[i]) = false := by simpa using hc
        have hb' : (a[i] != b[i]) = true := by simpa using hc
        simp [hb, hb']
    · have : (a.zip b).length = a.length := by simp; omega
      rw [this]; simp
  · have e : ((a.length : Int) != (b.length : Int)) = true := by simp; omega
    have : a ≠ b := fun h => hl (by rw [h])
    simp [e, this]

/-- Gaps of two vectors. -/
structure Gaps (g0 g1 g2 g3 : Int) : Prop where
  n0 : 0 ≤ g0
  n1 : 0 ≤ g1
  n2 : 0 ≤ g2
  n3 : 0 ≤ g3
  m0 : g0 ≤ 200
  m1 : g1 ≤ 200
  m2 : g2 ≤ 200
  m3 : g3 ≤ 200
end Go.Vs

namespace Go.Vs

end Go.Vs

namespace Go.Vs

theorem down_eq {n m : Int} (hm : 0 < m) : (if n.tmod m < 0 then n.tdiv m - 1 else n.tdiv m) = n / m := by
  have e := Int.mul_tdiv_add_tmod n m
  have h1 : n.tmod m < m := Int.tmod_lt_of_pos n hm
  have h2 : -m < n.tmod m := by
    have := Int.lt_tmod_of_pos n hm
    omega
  by_cases c : n.tmod m < 0
  · rw [if_pos c]
    have : n = (n.tmod m + m) + (n.tdiv m - 1) * m := by
      rw [Int.sub_mul, Int.mul_comm (n.tdiv m) m]; omega
    conv => rhs; rw [this]
    rw [Int.add_mul_ediv_right _ _ (by omega), Int.ediv_eq_zero_of_lt (by omega) (by omega)]; omega
  · rw [if_neg c]
    have : n = n.tmod m + n.tdiv m * m := by
      rw [Int.mul_comm (n.tdiv m) m]; omega
    conv => rhs; rw [this]
    rw [Int.add_mul_ediv_right _ _ (by omega), Int.ediv_eq_zero_of_lt (by omega) (by omega)]; omega
theorem tdiv_abs {n m : Int} (hm : 0 < m) (h1 : -1000000000 ≤ n) (h2 : n ≤ 1000000000) : -1000000000 ≤ n.tdiv m ∧ n.tdiv m ≤ 1000000000 := by
  rcases Int.le_total 0 n with h | h
  · have := tdiv_range h hm; omega
  · have := tdiv_range (a := -n) (b := m) (by omega) hm
    rw [Int.neg_tdiv] at this; omega
theorem implDown_ok {n m : Int} (hm : 0 < m) (h1 : -1000000000 ≤ n) (h2 : n ≤ 1000000000) : M.impl_divideDown n m = some (n / m) := by
  have t := tdiv_abs hm h1 h2
  unfold M.impl_divideDown
  rw [gquo_ok (by omega), grem_ok (by omega), w64_id (by omega) (by omega)]
  simp only [Option.bind_some]
  rw [← down_eq hm]
  by_cases c : n.tmod m < 0
  · rw [if_pos c, w64_id (by omega) (by omega)]; simp [c]
  · rw [if_neg c]; simp [c]
theorem specDown_ok {n m : Int} (hm : 0 < m) (h1 : -1000000000 ≤ n) (h2 : n ≤ 1000000000) : M.spec_floorDiv n m = some (n / m) := implDown_ok hm h1 h2

end Go.Vs

namespace Go.Vs

theorem gidx_getD {v : List Int} {j : Nat} (h : j < v.length) : gidx v (j : Int) = some (v.getD j 0) := by
  rw [gidx_nat h]; simp [List.getD, h]
/-- The sum of a coordinate. -/
def sumAt (j : Nat) (l : List (List Int)) : Int := (l.map fun v => v.getD j 0).sum
theorem sumAt_next {j : Nat} {l : List (List Int)} {i : Nat} (h : i < l.length) : sumAt j (l.take (i + 1)) = sumAt j (l.take i) + l[i].getD j 0 := by
  unfold sumAt; rw [List.take_succ_eq_append_getElem h, List.map_append, List.sum_append]; simp
theorem sumAt_bounds {j : Nat} {l : List (List Int)} {a b : Int} (h : ∀ v ∈ l, a ≤ v.getD j 0 ∧ v.getD j 0 ≤ b) : a * l.length ≤ sumAt j l ∧ sumAt j l ≤ b * l.length := by
  induction l with
  | nil => simp [sumAt]
  | cons v l ih =>
    have h1 := h v (by simp)
    have h2 := ih (fun u hu => h u (by simp [hu]))
    have e : sumAt j (v :: l) = v.getD j 0 + sumAt j l := by simp [sumAt]
    rw [e]
    simp only [List.length_cons, Int.natCast_add, Int.cast_ofNat_Int, Int.mul_add, Int.mul_one]
    omega
theorem vec_co {v : List Int} (h : isVec v = true) {j : Nat} (hj : j < 4) : Co (v.getD j 0) := by
  obtain ⟨a, b, c, d, rfl, ha, hb, hc, hd⟩ := isVec_cut h
  match j, hj with
  | 0, _ => exact ha
  | 1, _ => exact hb
  | 2, _ => exact hc
  | 3, _ => exact hd
theorem sumAt_take {l : List (List Int)} {i : Nat} (h : ∀ v ∈ l.take i, isVec v = true) (hi : i ≤ 20) {j : Nat} (hj : j < 4) : -2000 ≤ sumAt j (l.take i) ∧ sumAt j (l.take i) ≤ 2000 := by
  have := sumAt_bounds (j := j) (l := l.take i) (a := -100) (b := 100) (fun v hv => vec_co (h v hv) hj)
  have hl : (l.take i).length ≤ 20 := by simp; omega
  omega

/-- What MeanOf answers. -/
def meanOf (l : List (List Int)) : List Int :=
  if (1 ≤ l.length ∧ l.length ≤ 16) ∧ l.all isVec = true then [sumAt 0 l / l.length, sumAt 1 l / l.length, sumAt 2 l / l.length, sumAt 3 l / l.length] else []

theorem validVecs_ok {l : List (List Int)} {m : Nat} (hm : m ≤ 1000000) (hb : ∀ v ∈ l, v.length < 2000000) : M.impl_validVectors l (m : Int) = some (decide (1 ≤ l.length) && decide (l.length ≤ m) && l.all isVec) := by
  unfold M.impl_validVectors
  by_cases h1 : 1 ≤ l.length
  · have e1 : decide ((l.length : Int) < 1) = false := decide_eq_false (by omega)
    by_cases h2 : l.length ≤ m
    · have e2 : decide ((m : Int) < (l.length : Int)) = false := decide_eq_false (by omega)
      simp only [e1, e2, cond_false, Option.bind_some, h1, h2, decide_true, Bool.true_and]
      rw [loop_all (xs := l) (P := isVec) (r := false)]
      · by_cases h : l.all isVec = true
        · rw [if_pos h, h]; rfl
        · rw [if_neg h]; simp only [Bool.not_eq_true] at h; rw [h]; rfl
      · intro i hi
        have e5 : decide ((i : Int) < (l.length : Int)) = true := decide_eq_true (by omega)
        have e6 : w64 ((i : Int) + 1) = (i : Int) + 1 := w64_id (by omega) (by omega)
        simp only [e5, cond_true, gidx_nat hi, Option.bind_some, impl_valid l[i] (hb _ (List.getElem_mem hi)), e6]
        cases isVec l[i] <;> simp
      · simp
    · have e2 : decide ((m : Int) < (l.length : Int)) = true := decide_eq_true (by omega)
      simp only [e1, e2, cond_false, cond_true, Option.bind_some, h2, decide_false, Bool.and_false, Bool.false_and]
  · have e1 : decide ((l.length : Int) < 1) = true := decide_eq_true (by omega)
    simp only [e1, cond_true, Option.bind_some, h1, decide_false, Bool.false_and]
theorem implMean_ok {l : List (List Int)} (hb : ∀ v ∈ l, v.length < 2000000) : M.impl_MeanOf l = some (meanOf l) := by
  unfold M.impl_MeanOf
  have hvv : M.impl_validVectors l 16 = _ := validVecs_ok (m := 16) (by omega) hb
  simp only [hvv, Option.bind_some]
  by_cases hr : 1 ≤ l.length ∧ l.length ≤ 16
  rotate_left
  · have : (decide (1 ≤ l.length) && decide (l.length ≤ 16)) = false := by
      by_cases q : 1 ≤ l.length
      · have : ¬ l.length ≤ 16 := fun h => hr ⟨q, h⟩
        simp [this]
      · simp [q]
    simp [this, meanOf, hr]
  cases hall : l.all isVec with
  | false => simp [meanOf, hall]
  | true =>
  simp only [hr.1, hr.2, decide_true, Bool.and_self, Bool.not_true, cond_false]
  have hv : ∀ v ∈ l, isVec v = true := by simpa using hall
  have hrun := loop_run (R := List Int) (r := [sumAt 0 l, sumAt 1 l, sumAt 2 l, sumAt 3 l]) (f := fun (s9 : (List Int) × (Int)) => (bif decide (s9.2 < (l.length : Int)) then
  (gidx l s9.2).bind fun x13 =>
  Option.bind (loopM (fun (s24 : (List Int) × (Int)) => (bif decide (s24.2 < (x13.length : Int)) then
  (gidx x13 s24.2).bind fun x28 =>
  (gidx s24.1 s24.2).bind fun x34 =>
  (gidx s24.1 s24.2).bind fun x38 =>
  some (.inl ((s24.1.set s24.2.toNat (w64 (x34 + x28))), w64 (s24.2 + 1)))
 else
  some (.inr s24.1))) (s9.1, 0)) fun o23 =>
  some (.inl (o23, w64 (s9.2 + 1)))
 else
  some (.inr s9.1))) l.length (fun i => ([sumAt 0 (l.take i), sumAt 1 (l.take i), sumAt 2 (l.take i), sumAt 3 (l.take i)], (i : Int))) ?_ ?_
  · have hz : (List.replicate 4 (0 : Int), (0 : Int)) = ([sumAt 0 (l.take 0), sumAt 1 (l.take 0), sumAt 2 (l.take 0), sumAt 3 (l.take 0)], ((0 : Nat) : Int)) := rfl
    rw [hz, hrun]
    simp only [Option.bind_some, meanOf, hr, hall, and_self, if_true]
    have hs : ∀ j, j < 4 → -2000 ≤ sumAt j l ∧ sumAt j l ≤ 2000 := by
      intro j hj
      have := sumAt_take (l := l) (i := l.length) (by simpa using hv) (by omega) hj
      simpa using this
    have s0 := hs 0 (by omega)
    have s1 := hs 1 (by omega)
    have s2 := hs 2 (by omega)
    have s3 := hs 3 (by omega)
    have hm : (0 : Int) < (l.length : Int) := by omega
    rw [loop4 (s1 := ([sumAt 0 l / l.length, sumAt 1 l, sumAt 2 l, sumAt 3 l], 1)) (s2 := ([sumAt 0 l / l.length, sumAt 1 l / l.length, sumAt 2 l, sumAt 3 l], 2)) (s3 := ([sumAt 0 l / l.length, sumAt 1 l / l.length, sumAt 2 l / l.length, sumAt 3 l], 3)) (s4 := ([sumAt 0 l / l.length, sumAt 1 l / l.length, sumAt 2 l / l.length, sumAt 3 l / l.length], 4)) (r := [sumAt 0 l / l.length, sumAt 1 l / l.length, sumAt 2 l / l.length, sumAt 3 l / l.length])]
    · rfl
    · simp only [d04, gi0, i01, cond_true, Option.bind_some, implDown_ok hm (show -1000000000 ≤ sumAt 0 l by omega) (by omega)]; rfl
    · simp only [d14, gi1, i12, cond_true, Option.bind_some, implDown_ok hm (show -1000000000 ≤ sumAt 1 l by omega) (by omega)]; rfl
    · simp only [d24, gi2, i23, cond_true, Option.bind_some, implDown_ok hm (show -1000000000 ≤ sumAt 2 l by omega) (by omega)]; rfl
    · simp only [d34, gi3, i34, cond_true, Option.bind_some, implDown_ok hm (show -1000000000 ≤ sumAt 3 l by omega) (by omega)]; rfl
    · simp only [d44, cond_false]
  · intro i hi
    have hpre : ∀ v ∈ l.take i, isVec v = true := fun v h => hv v (List.mem_of_mem_take h)
    have hp : isVec l[i] = true := hv _ (List.getElem_mem hi)
    have e1 : decide ((i : Int) < (l.length : Int)) = true := by simpa using hi
    have e2 : w64 ((i : Int) + 1) = ((i + 1 : Nat) : Int) := by rw [w64_id (by omega) (by omega)]; rfl
    simp only [e1, cond_true, gidx_nat hi, Option.bind_some, e2]
    rw [sumAt_next hi, sumAt_next hi, sumAt_next hi, sumAt_next hi]
    have s0 := sumAt_take hpre (by omega) (show 0 < 4 by omega)
    have s1 := sumAt_take hpre (by omega) (show 1 < 4 by omega)
    have s2 := sumAt_take hpre (by omega) (show 2 < 4 by omega)
    have s3 := sumAt_take hpre (by omega) (show 3 < 4 by omega)
    obtain ⟨a, b, c, d, he, ha, hb', hc, hd⟩ := isVec_cut hp
    rw [he]
    unfold Co at ha hb' hc hd
    generalize sumAt 0 (l.take i) = t0 at *
    generalize sumAt 1 (l.take i) = t1 at *
    generalize sumAt 2 (l.take i) = t2 at *
    generalize sumAt 3 (l.take i) = t3 at *
    have w0 : w64 (t0 + a) = t0 + a := w64_id (by omega) (by omega)
    have w1 : w64 (t1 + b) = t1 + b := w64_id (by omega) (by omega)
    have w2 : w64 (t2 + c) = t2 + c := w64_id (by omega) (by omega)
    have w3 : w64 (t3 + d) = t3 + d := w64_id (by omega) (by omega)
    rw [loop4 (s1 := ([t0 + a, t1, t2, t3], 1)) (s2 := ([t0 + a, t1 + b, t2, t3], 2)) (s3 := ([t0 + a, t1 + b, t2 + c, t3], 3)) (s4 := ([t0 + a, t1 + b, t2 + c, t3 + d], 4)) (r := [t0 + a, t1 + b, t2 + c, t3 + d])]
    · rfl
    · simp only [l4, d04, gi0, i01, cond_true, Option.bind_some, w0]; rfl
    · simp only [l4, d14, gi1, i12, cond_true, Option.bind_some, w1]; rfl
    · simp only [l4, d24, gi2, i23, cond_true, Option.bind_some, w2]; rfl
    · simp only [l4, d34, gi3, i34, cond_true, Option.bind_some, w3]; rfl
    · simp only [l4, d44, cond_false]
  · have e1 : decide ((l.length : Int) < (l.length : Int)) = false := by simp
    simp only [e1, cond_false, List.take_length]

theorem sumLoop_ok {l : List (List Int)} {j : Nat} (hj : j < 4) (hl : l.length ≤ 16) (hv : ∀ v ∈ l, isVec v = true) :
    loopM (fun (s16 : (Int) × (Int)) => (bif decide (s16.2 < (l.length : Int)) then
  (gidx l s16.2).bind fun x22 =>
  (gidx x22 (j : Int)).bind fun x32 =>
  some (.inl (w64 (s16.1 + x32), w64 (s16.2 + 1)))
 else
  some (.inr s16.1))) (0, 0) = some (sumAt j l) := by
  have := loop_run (f := fun (s16 : (Int) × (Int)) => (bif decide (s16.2 < (l.length : Int)) then
  (gidx l s16.2).bind fun x22 =>
  (gidx x22 (j : Int)).bind fun x32 =>
  some (.inl (w64 (s16.1 + x32), w64 (s16.2 + 1)))
 else
  some (.inr s16.1))) (r := sumAt j l) l.length (fun i => (sumAt j (l.take i), (i : Int))) (by
    intro i hi
    have e1 : decide ((i : Int) < (l.length : Int)) = true := by simpa using hi
    have e2 : w64 ((i : Int) + 1) = ((i + 1 : Nat) : Int) := w64_id (by omega) (by omega)
    have hx := hv _ (List.getElem_mem hi)
    have hlen := (isVec_iff.1 hx).1
    have hco := vec_co hx hj
    have s := sumAt_take (l := l) (i := i) (fun v h => hv v (List.mem_of_mem_take h)) (by omega) hj
    unfold Co at hco
    simp only [e1, cond_true, gidx_nat hi, Option.bind_some, e2, gidx_getD (show j < l[i].length by omega), sumAt_next hi]
    rw [w64_id (n := sumAt j (l.take i) + l[i].getD j 0) (by omega) (by omega)]) (by
    have e1 : decide (((l.length : Nat) : Int) < (l.length : Int)) = false := by simp
    simp only [e1, cond_false, List.take_length])
  exact this

theorem specMeanOf_ok {l : List (List Int)} (hb : ∀ v ∈ l, v.length < 2000000) (hL : l.length < 2000000) : M.spec_MeanOf l = some (meanOf l) := by
  unfold M.spec_MeanOf
  simp only [spec_inR, Option.bind_some]
  by_cases hr : 1 ≤ l.length ∧ l.length ≤ 16
  · have e : (decide (1 ≤ (l.length : Int)) && decide ((l.length : Int) ≤ 16)) = true := by simp; omega
    simp only [e, Bool.not_true, cond_false]
    rw [loop_all (xs := l) (P := isVec) (r := [])]
    · by_cases hall : l.all isVec = true
      · simp only [hall, if_true, Option.bind_some, selim, meanOf, hr, and_self]
        have hv : ∀ v ∈ l, isVec v = true := by simpa using hall
        have hs : ∀ j, j < 4 → -2000 ≤ sumAt j l ∧ sumAt j l ≤ 2000 := by
          intro j hj
          have := sumAt_take (l := l) (i := l.length) (by simpa using hv) (by omega) hj
          simpa using this
        have s0 := hs 0 (by omega)
        have s1 := hs 1 (by omega)
        have s2 := hs 2 (by omega)
        have s3 := hs 3 (by omega)
        have hm : (0 : Int) < (l.length : Int) := by omega
        have z0 := sumLoop_ok (j := 0) (by omega) hr.2 hv
        have z1 := sumLoop_ok (j := 1) (by omega) hr.2 hv
        have z2 := sumLoop_ok (j := 2) (by omega) hr.2 hv
        have z3 := sumLoop_ok (j := 3) (by omega) hr.2 hv
        simp only [Int.cast_ofNat_Int] at z0 z1 z2 z3
        unfold M.spec_mean
        rw [loop4 (s1 := ([sumAt 0 l / l.length], 1)) (s2 := ([sumAt 0 l / l.length, sumAt 1 l / l.length], 2)) (s3 := ([sumAt 0 l / l.length, sumAt 1 l / l.length, sumAt 2 l / l.length], 3)) (s4 := ([sumAt 0 l / l.length, sumAt 1 l / l.length, sumAt 2 l / l.length, sumAt 3 l / l.length], 4)) (r := [sumAt 0 l / l.length, sumAt 1 l / l.length, sumAt 2 l / l.length, sumAt 3 l / l.length])]
        · rfl
        · simp only [d04, cond_true]
          rw [z0]; simp only [i01, Option.bind_some, specDown_ok hm (show -1000000000 ≤ sumAt 0 l by omega) (by omega)]; rw [gapp_ok (by simp)]; rfl
        · simp only [d14, cond_true]
          rw [z1]; simp only [i12, Option.bind_some, specDown_ok hm (show -1000000000 ≤ sumAt 1 l by omega) (by omega)]; rw [gapp_ok (by simp)]; rfl
        · simp only [d24, cond_true]
          rw [z2]; simp only [i23, Option.bind_some, specDown_ok hm (show -1000000000 ≤ sumAt 2 l by omega) (by omega)]; rw [gapp_ok (by simp)]; rfl
        · simp only [d34, cond_true]
          rw [z3]; simp only [i34, Option.bind_some, specDown_ok hm (show -1000000000 ≤ sumAt 3 l by omega) (by omega)]; rw [gapp_ok (by simp)]; rfl
        · simp only [d44, cond_false]
      · rw [if_neg hall]
        unfold meanOf
        rw [if_neg (fun h => hall h.2)]; rfl
    · intro i hi
      have e1 : decide ((i : Int) < (l.length : Int)) = true := by simpa using hi
      have e2 : w64 ((i : Int) + 1) = (i : Int) + 1 := w64_id (by omega) (by omega)
      simp only [e1, cond_true, gidx_nat hi, Option.bind_some, e2, spec_isVec l[i] (hb _ (List.getElem_mem _))]
      cases isVec l[i] <;> rfl
    · simp
  · have e : (decide (1 ≤ (l.length : Int)) && decide ((l.length : Int) ≤ 16)) = false := by simp; omega
    simp [e, meanOf, hr]

theorem some_loop {n : Nat} : ∀ {k : Nat} {r : List UInt8 × Int} {l : List (List Int)}, k + 12 * n ≤ 500000 → l.length + n ≤ 1000 → n ≤ 100 → Good k r → (∀ v ∈ l, isVec v = true) →
    ∃ r' l', loopM (fun (s40 : ((List UInt8) × (Int)) × (List (List Int)) × (Int)) => (bif decide (0 < s40.2.2) then
  (M.spec_someVector (s40.1.1, s40.1.2)).bind fun r52 =>
  (gapp s40.2.1 ([r52.1] : List (List Int))).bind fun xs79 =>
  some (.inl ((r52.2.1, r52.2.2), xs79, w64 (s40.2.2 - 1)))
 else
  some (.inr ((s40.1.1, s40.1.2), s40.2.1)))) (r, l, (n : Int)) = some (r', l') ∧ Good (k + 12 * n) r' ∧ l'.length = l.length + n ∧ ∀ v ∈ l', isVec v = true := by
  induction n with
  | zero =>
    intro k r l hk hl _ hr hv
    refine ⟨r, l, ?_, hr, rfl, hv⟩
    rw [loopM_eq]; simp [selim]
  | succ n ih =>
    intro k r l hk hl hn hr hv
    obtain ⟨v, r2, h2, g2, hvec⟩ := vector_ok (by omega) hr
    obtain ⟨r', l', h, g, hlen, hall⟩ := ih (k := k + 12) (r := r2) (l := l ++ [v]) (by omega) (by simp; omega) (by omega) g2 (by
      intro u hu
      rcases List.mem_append.1 hu with h | h
      · exact hv u h
      · simp only [List.mem_singleton] at h; subst h; exact hvec)
    refine ⟨r', l', ?_, g.mono (by omega), by simp at hlen; omega, hall⟩
    rw [loopM_eq]
    have e1 : decide ((0 : Int) < ((n + 1 : Nat) : Int)) = true := by simp
    have e2 : w64 (((n + 1 : Nat) : Int) - 1) = (n : Int) := by rw [w64_id (by omega) (by omega)]; omega
    simp only [e1, cond_true, h2, Option.bind_some, gapp_ok (xs := l) (ys := [v]) (by simp; omega), e2, selim]
    exact h

theorem drawMeanOf_ok (code : List UInt8) : ∃ l, M.spec_DrawMeanOf code = some l ∧ l.length ≤ 18 ∧ ∀ v ∈ l, Near v := by
  obtain ⟨r, h, g⟩ := newReader_ok code
  obtain ⟨n, r1, h1, g1, m1⟩ := one_ok (by omega) g (list := [3, 2, 4, 1, 0, 16, 17]) (by simp)
  simp only [List.mem_cons, List.not_mem_nil, or_false] at m1
  obtain ⟨m, rfl⟩ := Int.eq_ofNat_of_zero_le (show 0 ≤ n by omega)
  obtain ⟨r2, l, h2, g2, hl, hv⟩ := some_loop (n := m) (k := 0 + 1) (r := r1) (l := []) (by omega) (by simp; omega) (by omega) g1 (by simp)
  obtain ⟨x, r3, h3, g3, _⟩ := pick_ok (by omega) g2 12
  simp only [List.length_nil] at hl
  unfold M.spec_DrawMeanOf
  simp only [h, h1, Option.bind_some, h2, h3]
  by_cases c : x = 0
  · obtain ⟨u, r4, h4, g4, nu⟩ := any_ok (by omega) g3
    refine ⟨l ++ [u], ?_, by simp; omega, fun v hv' => ?_⟩
    · simp only [c, BEq.rfl, cond_true, h4, Option.bind_some, gapp_ok (xs := l) (ys := [u]) (by simp; omega)]
    · rcases List.mem_append.1 hv' with h | h
      · exact near_of (hv v h)
      · simp only [List.mem_singleton] at h; subst h; exact nu
  · have e : (x == 0) = false := by simpa using c
    exact ⟨l, by simp only [e, cond_false, Option.bind_some], by omega, fun v h => near_of (hv v h)⟩

theorem meanOf_len {l : List (List Int)} : (meanOf l).length < 2000000 := by unfold meanOf; split <;> simp

end Go.Vs

namespace Go.Vs

theorem sumAt_reverse {j : Nat} {l : List (List Int)} : sumAt j l.reverse = sumAt j l := by
  unfold sumAt; rw [List.map_reverse, List.sum_reverse]
theorem meanOf_reverse {l : List (List Int)} : meanOf l.reverse = meanOf l := by
  unfold meanOf; simp only [List.length_reverse, List.all_reverse, sumAt_reverse]

theorem law_MeanOfOrder (code : List UInt8) : M.laws_FnMeanOfOrder code = some true := by
  obtain ⟨l, h, hL, hn⟩ := drawMeanOf_ok code
  have hb : ∀ v ∈ l, v.length < 2000000 := fun v hv => by have := (hn v hv).1; omega
  have hb' : ∀ v ∈ l.reverse, v.length < 2000000 := fun v hv => hb v (by simpa using hv)
  unfold M.laws_FnMeanOfOrder
  by_cases hc : 1048576 < (code.length : Int)
  · simp [hc]
  simp only [hc, decide_false, cond_false, h, Option.bind_some, implMean_ok hb, specMeanOf_ok hb (by omega), equalInts_ok meanOf_len, decide_true, Bool.not_true]
  have hloop := loop_run (R := List (List Int)) (f := fun (s76 : (List (List Int)) × (Int)) => (bif decide (0 ≤ s76.2) then
  (gidx l s76.2).bind fun x88 =>
  (gapp s76.1 ([x88] : List (List Int))).bind fun xs106 =>
  some (.inl (xs106, w64 (s76.2 - 1)))
 else
  some (.inr s76.1))) (r := l.reverse) l.length (fun i => (l.reverse.take i, (l.length : Int) - 1 - i)) (by
    intro i hi
    have e0 : (l.length : Int) - 1 - i = ((l.length - 1 - i : Nat) : Int) := by omega
    have e1 : decide (0 ≤ (l.length : Int) - 1 - i) = true := by simp; omega
    have e2 : w64 ((l.length : Int) - 1 - i - 1) = (l.length : Int) - 1 - ((i + 1 : Nat) : Int) := by rw [w64_id (by omega) (by omega)]; omega
    simp only [e1, cond_true, e2]
    rw [e0, gidx_nat (show l.length - 1 - i < l.length by omega)]
    simp only [Option.bind_some]
    rw [gapp_ok (by simp; omega)]
    simp only [Option.bind_some]
    have hr : i < l.reverse.length := by simpa using hi
    rw [List.take_succ_eq_append_getElem hr, List.getElem_reverse]) (by
    have e1 : decide (0 ≤ (l.length : Int) - 1 - (l.length : Int)) = false := by simp; omega
    simp only [e1, cond_false]
    rw [show l.length = l.reverse.length by simp, List.take_length])
  have hw : w64 ((l.length : Int) - 1) = (l.length : Int) - 1 := w64_id (by omega) (by omega)
  simp only [List.take_zero, Int.cast_ofNat_Int, Int.sub_zero] at hloop
  rw [hw, hloop]
  simp only [Option.bind_some, implMean_ok hb', meanOf_reverse, equalInts_ok meanOf_len, decide_true]
end Go.Vs
