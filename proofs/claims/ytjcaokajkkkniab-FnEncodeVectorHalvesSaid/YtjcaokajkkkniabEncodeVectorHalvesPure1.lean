/- Plain facts of what the functions compute. -/
import Derived.Test.YtjcaokajkkkniabEncodeVectorHalvesEng1
import Derived.Test.YtjcaokajkkkniabEncodeVectorHalvesLib1
set_option linter.unusedVariables false
set_option linter.unusedSimpArgs false
namespace Go.Vs

theorem loop_run {S R : Type} {f : S → Option (S ⊕ R)} {r : R} (k : Nat) (st : Nat → S) (hs : ∀ i, i < k → f (st i) = some (.inl (st (i + 1)))) (he : f (st k) = some (.inr r)) : loopM f (st 0) = some r := by
  induction k generalizing st with
  | zero => rw [loopM_eq, he]; rfl
  | succ k ih =>
    rw [loopM_eq, hs 0 (by omega)]
    exact ih (fun i => st (i + 1)) (fun i hi => hs (i + 1) (by omega)) he

theorem w64_nat {n : Nat} (h : n < 9223372036854775808) : w64 (n : Int) = n := w64_id (by omega) (by omega)
theorem gidx_nat {α : Type} {xs : List α} {i : Nat} (h : i < xs.length) : gidx xs (i : Int) = some xs[i] := by
  unfold gidx
  rw [if_pos (by omega)]
  simp [h]
theorem gidx_lt' {α : Type} {xs : List α} {a : Int} (h0 : 0 ≤ a) (h : a < xs.length) : ∃ e, gidx xs a = some e ∧ e ∈ xs := by
  obtain ⟨n, rfl⟩ := Int.eq_ofNat_of_zero_le h0
  have hn : n < xs.length := by omega
  exact ⟨xs[n], gidx_nat hn, List.getElem_mem _⟩
theorem gapp_ok {α : Type} {xs ys : List α} (h : xs.length + ys.length ≤ 2147483648) : gapp xs ys = some (xs ++ ys) := by unfold gapp; rw [if_pos h]
theorem grem_ok {a b : Int} (h : b ≠ 0) : grem a b = some (a.tmod b) := by unfold grem; rw [if_neg h]
theorem gquo_ok {a b : Int} (h : b ≠ 0) : gquo a b = some (w64 (a.tdiv b)) := by unfold gquo; rw [if_neg h]
theorem gslice_ok {α : Type} {xs : List α} {l h : Int} (h0 : 0 ≤ l) (h1 : l ≤ h) (h2 : h ≤ xs.length) : gslice xs l h = some ((xs.take h.toNat).drop l.toNat) := by
  unfold gslice; rw [if_pos ⟨h0, h1, h2⟩]
theorem tmod_range {a b : Int} (ha : 0 ≤ a) (hb : 0 < b) : 0 ≤ a.tmod b ∧ a.tmod b < b := by
  rw [Int.tmod_eq_emod_of_nonneg ha]
  exact ⟨Int.emod_nonneg _ (by omega), Int.emod_lt_of_pos _ hb⟩
theorem tdiv_range {a b : Int} (ha : 0 ≤ a) (hb : 0 < b) : 0 ≤ a.tdiv b ∧ a.tdiv b ≤ a := by
  rw [Int.tdiv_eq_ediv_of_nonneg ha]
  exact ⟨Int.ediv_nonneg ha (by omega), Int.ediv_le_self _ ha⟩
theorem gxor_range {a b : Int} (ha : 0 ≤ a) (ha' : a < 4611686018427387904) (hb : 0 ≤ b) (hb' : b < 4611686018427387904) : 0 ≤ gxor a b ∧ gxor a b < 4611686018427387904 := by
  obtain ⟨m, rfl⟩ := Int.eq_ofNat_of_zero_le ha
  obtain ⟨n, rfl⟩ := Int.eq_ofNat_of_zero_le hb
  have h1 : (BitVec.ofInt 64 (m : Int) ^^^ BitVec.ofInt 64 (n : Int)).toNat = m ^^^ n := by
    rw [BitVec.toNat_xor]
    have e : ∀ k : Nat, k < 4611686018427387904 → (BitVec.ofInt 64 (k : Int)).toNat = k := by
      intro k hk
      simp only [BitVec.toNat_ofInt]
      omega
    rw [e m (by omega), e n (by omega)]
  have h2 : m ^^^ n < 2 ^ 62 := Nat.xor_lt_two_pow (by omega) (by omega)
  have h3 : (2 : Nat) ^ 62 = 4611686018427387904 := by decide
  unfold gxor
  rw [h1]
  have : w64 ((m ^^^ n : Nat) : Int) = (m ^^^ n : Nat) := w64_nat (by omega)
  show 0 ≤ w64 _ ∧ w64 _ < _
  rw [this]
  omega
/-- A loop that looks at each element, and leaves at the first that fails. -/
theorem loop_all {α R : Type} {xs : List α} {P : α → Bool} {r : R} {f : Int → Option (Int ⊕ (Unit ⊕ R))} (hs : ∀ i (h : i < xs.length), f (i : Int) = some (if P xs[i] then .inl ((i : Int) + 1) else .inr (.inr r))) (he : f (xs.length : Int) = some (.inr (.inl ()))) :
    loopM f 0 = some (if xs.all P then .inl () else .inr r) := by
  have key : ∀ m k : Nat, k + m = xs.length → loopM f (k : Int) = some (if (xs.drop k).all P then .inl () else .inr r) := by
    intro m
    induction m with
    | zero =>
      intro k hk
      have : k = xs.length := by omega
      subst this
      rw [loopM_eq, he]; simp [selim]
    | succ m ih =>
      intro k hk
      have hlt : k < xs.length := by omega
      rw [loopM_eq, hs k hlt, List.drop_eq_getElem_cons hlt]
      by_cases hp : P xs[k] = true
      · rw [if_pos hp]
        have := ih (k + 1) (by omega)
        simp only [Int.natCast_add, Int.cast_ofNat_Int] at this
        simp only [List.all_cons, hp, Bool.true_and, selim, this, Option.bind_some]
      · rw [if_neg hp]
        simp only [List.all_cons, Bool.not_eq_true] at hp ⊢
        simp only [hp, Bool.false_and, selim, Option.bind_some]; rfl
  have := key xs.length 0 (by omega)
  simpa using this
end Go.Vs

namespace Go.Vs

/-- A reader that has been asked at most k times. -/
def Good (k : Nat) (r : List UInt8 × Int) : Prop := r.1.length ≤ 2000 ∧ 0 ≤ r.2 ∧ r.2 ≤ k
theorem Good.mono {k m : Nat} {r : List UInt8 × Int} (h : Good k r) (hm : k ≤ m) : Good m r := ⟨h.1, h.2.1, by have := h.2.2; omega⟩

theorem pick_ok {k : Nat} (hk : k ≤ 1000000) {r : List UInt8 × Int} (hr : Good k r) (n : Int) :
    ∃ x r', M.spec_reader_pick r n = some (x, r') ∧ Good (k + 1) r' ∧ 0 ≤ x ∧ (1 ≤ n → x < n) ∧ (n < 1 → x = 0) := by
  obtain ⟨b, p⟩ := r
  obtain ⟨h1, h2, h3⟩ := hr
  simp only at h1 h2 h3
  have e1 : w64 (p + 1) = p + 1 := w64_id (by omega) (by omega)
  have e2 : w64 (p + 1 - 1) = p := by rw [w64_id (by omega) (by omega)]; omega
  have hgood : Good (k + 1) (b, p + 1) := ⟨h1, by simp only; omega, by simp only; omega⟩
  unfold M.spec_reader_pick
  simp only [e1, e2]
  by_cases hn : n < 1
  · refine ⟨0, (b, p + 1), ?_, hgood, by omega, fun h => by omega, fun _ => rfl⟩
    simp [hn]
  · by_cases hb : b.length = 0
    · refine ⟨0, (b, p + 1), ?_, hgood, by omega, fun h => by omega, fun _ => rfl⟩
      simp [hn, hb]
    · have hbl : (b.length : Int) ≠ 0 := by omega
      have hbb : ((b.length : Int) == 0) = false := by simpa using hb
      simp only [hn, decide_false, cond_false, hbb, Option.bind_some]
      by_cases hp : p < (b.length : Int)
      · obtain ⟨e, he, _⟩ := gidx_lt' (xs := b) h2 hp
        have hE : w64 (e.toNat : Int) = e.toNat := w64_nat (by have := e.toNat_lt; omega)
        have hr := tmod_range (a := (e.toNat : Int)) (b := n) (by omega) (by omega)
        refine ⟨_, (b, p + 1), ?_, hgood, hr.1, fun _ => hr.2, fun h => h.elim⟩
        simp only [hp, decide_true, cond_true, he, Option.bind_some, hE, grem_ok (show n ≠ 0 by omega)]
      · simp only [hp, decide_false, cond_false]
        have hbp : 0 < (b.length : Int) := by omega
        have r1 := tmod_range (a := p) h2 hbp
        have e7 : w64 (w64 (p * 7) + 3) = p * 7 + 3 := by rw [w64_id (n := p * 7) (by omega) (by omega), w64_id (by omega) (by omega)]
        have r2 := tmod_range (a := p * 7 + 3) (b := (b.length : Int)) (by omega) hbp
        obtain ⟨x, hx, _⟩ := gidx_lt' (xs := b) r1.1 r1.2
        obtain ⟨y, hy, _⟩ := gidx_lt' (xs := b) r2.1 r2.2
        have hX : (x.toNat : Int) < 256 := by have := x.toNat_lt; omega
        have hY : (y.toNat : Int) < 256 := by have := y.toNat_lt; omega
        have r3 := tdiv_range (a := p) (b := (b.length : Int)) h2 hbp
        simp only [grem_ok hbl, Option.bind_some, hx, e7, hy, gquo_ok hbl]
        generalize hq : w64 (p.tdiv (b.length : Int)) = q
        have hq' : 0 ≤ q ∧ q ≤ 1000000 := by rw [← hq, w64_id (by omega) (by omega)]; omega
        have eX : w64 (x.toNat : Int) = x.toNat := w64_id (by omega) (by omega)
        have eY : w64 (y.toNat : Int) = y.toNat := w64_id (by omega) (by omega)
        simp only [eX, eY]
        have eX' : w64 ((x.toNat : Int) * 131) = x.toNat * 131 := w64_id (by omega) (by omega)
        have eY' : w64 ((y.toNat : Int) * 1117) = y.toNat * 1117 := w64_id (by omega) (by omega)
        have eP : w64 (p * 29) = p * 29 := w64_id (by omega) (by omega)
        have eQ : w64 (q * 53) = q * 53 := w64_id (by omega) (by omega)
        simp only [eX', eY', eP, eQ]
        have eA : w64 ((x.toNat : Int) * 131 + y.toNat * 1117) = x.toNat * 131 + y.toNat * 1117 := w64_id (by omega) (by omega)
        simp only [eA]
        have eB : w64 ((x.toNat : Int) * 131 + y.toNat * 1117 + p * 29) = x.toNat * 131 + y.toNat * 1117 + p * 29 := w64_id (by omega) (by omega)
        simp only [eB]
        have eC : w64 ((x.toNat : Int) * 131 + y.toNat * 1117 + p * 29 + q * 53) = x.toNat * 131 + y.toNat * 1117 + p * 29 + q * 53 := w64_id (by omega) (by omega)
        simp only [eC]
        generalize hZ : (x.toNat : Int) * 131 + y.toNat * 1117 + p * 29 + q * 53 = Z
        have hZ' : 0 ≤ Z ∧ Z ≤ 1000000000 := by omega
        have r4 := tdiv_range (a := Z) (b := 64) hZ'.1 (by omega)
        have eD : w64 (Z.tdiv 64) = Z.tdiv 64 := w64_id (by omega) (by omega)
        rw [eD]
        have r5 := gxor_range (a := Z) (b := Z.tdiv 64) (by omega) (by omega) (by omega) (by omega)
        have r6 := tmod_range (a := gxor Z (Z.tdiv 64)) (b := n) r5.1 (by omega)
        refine ⟨_, (b, p + 1), ?_, hgood, r6.1, fun _ => r6.2, fun h => h.elim⟩
        simp only [grem_ok (show n ≠ 0 by omega), Option.bind_some]

theorem one_ok {k : Nat} (hk : k ≤ 1000000) {r : List UInt8 × Int} (hr : Good k r) {list : List Int} (hl : list ≠ []) :
    ∃ x r', M.spec_reader_one r list = some (x, r') ∧ Good (k + 1) r' ∧ x ∈ list := by
  obtain ⟨x, r', h1, h2, h3, h4, _⟩ := pick_ok hk hr (list.length : Int)
  have hlen : 1 ≤ (list.length : Int) := by
    have : list.length ≠ 0 := by simpa using hl
    omega
  obtain ⟨e, he, hm⟩ := gidx_lt' h3 (h4 hlen)
  refine ⟨e, r', ?_, h2, hm⟩
  unfold M.spec_reader_one
  simp only [h1, Option.bind_some, he]

theorem coord_ok {k : Nat} (hk : k ≤ 900000) {r : List UInt8 × Int} (hr : Good k r) :
    ∃ x r', M.spec_someCoord r = some (x, r') ∧ Good (k + 3) r' ∧ -100 ≤ x ∧ x ≤ 100 := by
  obtain ⟨x1, r1, h1, g1, a1, b1, _⟩ := pick_ok (by omega) hr 201
  obtain ⟨x2, r2, h2, g2, a2, b2, _⟩ := pick_ok (by omega) g1 21
  have b1 := b1 (by omega)
  have b2 := b2 (by omega)
  have e1 : w64 (x1 - 100) = x1 - 100 := w64_id (by omega) (by omega)
  have e2 : w64 (x2 - 10) = x2 - 10 := w64_id (by omega) (by omega)
  obtain ⟨x3, r3, h3, g3, m3⟩ := one_ok (by omega) g2 (list := [0, 1, -1, 5, -7, 10, 3, 100, -100, x1 - 100, x2 - 10]) (by simp)
  refine ⟨x3, r3, ?_, g3, ?_⟩
  · unfold M.spec_someCoord
    simp only [h1, Option.bind_some, h2, e1, e2, h3]
  · simp only [List.mem_cons, List.not_mem_nil, or_false] at m3
    omega

/-- A valid vector. -/
def isVec (v : List Int) : Bool := decide (v.length = 4) && v.all fun x => decide (-100 ≤ x) && decide (x ≤ 100)
theorem isVec_iff {v : List Int} : isVec v = true ↔ v.length = 4 ∧ ∀ x ∈ v, -100 ≤ x ∧ x ≤ 100 := by
  unfold isVec; simp
theorem isVec_four {v : List Int} (h : isVec v = true) : ∃ a b c d, v = [a, b, c, d] ∧ (-100 ≤ a ∧ a ≤ 100) ∧ (-100 ≤ b ∧ b ≤ 100) ∧ (-100 ≤ c ∧ c ≤ 100) ∧ (-100 ≤ d ∧ d ≤ 100) := by
  obtain ⟨h1, h2⟩ := isVec_iff.1 h
  match v, h1 with
  | [a, b, c, d], _ => exact ⟨a, b, c, d, rfl, h2 a (by simp), h2 b (by simp), h2 c (by simp), h2 d (by simp)⟩

theorem vector_ok {k : Nat} (hk : k ≤ 800000) {r : List UInt8 × Int} (hr : Good k r) :
    ∃ v r', M.spec_someVector r = some (v, r') ∧ Good (k + 12) r' ∧ isVec v = true := by
  obtain ⟨x1, r1, h1, g1, a1, b1⟩ := coord_ok (by omega) hr
  obtain ⟨x2, r2, h2, g2, a2, b2⟩ := coord_ok (by omega) g1
  obtain ⟨x3, r3, h3, g3, a3, b3⟩ := coord_ok (by omega) g2
  obtain ⟨x4, r4, h4, g4, a4, b4⟩ := coord_ok (by omega) g3
  refine ⟨[x1, x2, x3, x4], r4, ?_, g4, isVec_iff.2 ⟨rfl, by simp only [List.mem_cons, List.not_mem_nil, or_false]; rintro x (rfl | rfl | rfl | rfl) <;> omega⟩⟩
  have e : ∀ n : Nat, n < 10 → w64 ((n : Int) + 1) = (n : Int) + 1 := fun n hn => w64_id (by omega) (by omega)
  have e0 : w64 ((0 : Int) + 1) = 1 := e 0 (by omega)
  have e1 : w64 ((1 : Int) + 1) = 2 := e 1 (by omega)
  have e2 : w64 ((2 : Int) + 1) = 3 := e 2 (by omega)
  have e3 : w64 ((3 : Int) + 1) = 4 := e 3 (by omega)
  have ga : ∀ (xs : List Int) (x : Int), xs.length < 10 → gapp xs [x] = some (xs ++ [x]) := fun xs x hx => gapp_ok (by simp; omega)
  unfold M.spec_someVector
  rw [loopM_eq]
  simp only [show decide ((0 : Int) < 4) = true from rfl, cond_true, h1, Option.bind_some, ga [] x1 (by simp), selim, e0, List.nil_append]
  rw [loopM_eq]
  simp only [show decide ((1 : Int) < 4) = true from rfl, cond_true, h2, Option.bind_some, ga [x1] x2 (by simp), selim, e1, List.cons_append, List.nil_append]
  rw [loopM_eq]
  simp only [show decide ((2 : Int) < 4) = true from rfl, cond_true, h3, Option.bind_some, ga [x1, x2] x3 (by simp), selim, e2, List.cons_append, List.nil_append]
  rw [loopM_eq]
  simp only [show decide ((3 : Int) < 4) = true from rfl, cond_true, h4, Option.bind_some, ga [x1, x2, x3] x4 (by simp), selim, e3, List.cons_append, List.nil_append]
  rw [loopM_eq]
  simp only [show decide ((4 : Int) < 4) = false from rfl, cond_false, Option.bind_some, selim]
end Go.Vs
namespace Go.Vs
/-- A vector that may be drawn. -/
def Near (v : List Int) : Prop := v.length ≤ 5 ∧ ∀ x ∈ v, -101 ≤ x ∧ x ≤ 101
theorem near_of {v : List Int} (h : isVec v = true) : Near v := by
  obtain ⟨h1, h2⟩ := isVec_iff.1 h
  exact ⟨by omega, fun x hx => by have := h2 x hx; omega⟩
theorem copy_ok {v : List Int} (h : v.length ≤ 1000000) : M.spec_copyInts v = some v := by
  unfold M.spec_copyInts
  rw [gapp_ok (by simp; omega)]; rfl
theorem spoil_ok {k : Nat} (hk : k ≤ 700000) {r : List UInt8 × Int} (hr : Good k r) {v : List Int} (hv : isVec v = true) :
    ∃ u r', M.spec_reader_spoil r v 101 = some (u, r') ∧ Good (k + 3) r' ∧ Near u := by
  obtain ⟨hl, hb⟩ := isVec_iff.1 hv
  obtain ⟨x1, r1, h1, g1, a1, b1, _⟩ := pick_ok (by omega) hr 20
  unfold M.spec_reader_spoil
  simp only [copy_ok (v := v) (by omega), Option.bind_some, h1]
  by_cases c0 : x1 = 0
  · refine ⟨v ++ [101], r1, ?_, g1.mono (by omega), ?_⟩
    · simp [c0, gapp_ok (xs := v) (ys := [101]) (by simp; omega)]
    · refine ⟨by simp; omega, fun x hx => ?_⟩
      rcases List.mem_append.1 hx with h | h
      · have := hb x h; omega
      · simp at h; omega
  · have e0 : (x1 == 0) = false := by simpa using c0
    simp only [e0, cond_false]
    have hpos : decide (0 < (v.length : Int)) = true := by simp; omega
    have hp' : 0 < v.length := by omega
    by_cases c1 : x1 = 1
    · refine ⟨v.drop 1, r1, ?_, g1.mono (by omega), by simp; omega, fun x hx => ?_⟩
      · have : gslice v 1 (v.length : Int) = some (v.drop 1) := by
          rw [gslice_ok (by omega) (by omega) (by omega)]; simp
        simp [c1, hp', this]
      · have := hb x (List.mem_of_mem_drop hx); omega
    · have e1 : (x1 == 1) = false := by simpa using c1
      simp only [e1, cond_false]
      by_cases c2 : x1 = 2
      · obtain ⟨i, r2, h2, g2, a2, b2, _⟩ := pick_ok (by omega) g1 (v.length : Int)
        obtain ⟨y, r3, h3, g3, m3⟩ := one_ok (by omega) g2 (list := [-1, 101, 0, 1]) (by simp)
        have b2 := b2 (by omega)
        obtain ⟨z, hz, _⟩ := gidx_lt' (xs := v) a2 b2
        refine ⟨v.set i.toNat y, r3, ?_, g3, by simp; omega, fun x hx => ?_⟩
        · simp [c2, hp', h2, h3, hz]
        · rcases List.mem_or_eq_of_mem_set hx with h | h
          · have := hb x h; omega
          · subst h
            simp only [List.mem_cons, List.not_mem_nil, or_false] at m3
            omega
      · have e2 : (x1 == 2) = false := by simpa using c2
        exact ⟨v, r1, by simp [e2], g1.mono (by omega), near_of hv⟩
theorem any_ok {k : Nat} (hk : k ≤ 600000) {r : List UInt8 × Int} (hr : Good k r) :
    ∃ v r', M.spec_anyVector r = some (v, r') ∧ Good (k + 16) r' ∧ Near v := by
  obtain ⟨x1, r1, h1, g1, a1, b1, _⟩ := pick_ok (by omega) hr 10
  obtain ⟨v, r2, h2, g2, hv⟩ := vector_ok (by omega) g1
  unfold M.spec_anyVector
  simp only [h1, Option.bind_some]
  by_cases c0 : x1 = 0
  · obtain ⟨u, r3, h3, g3, hu⟩ := spoil_ok (by omega) g2 hv
    exact ⟨u, r3, by simp [c0, h2, h3], g3, hu⟩
  · have e0 : (x1 == 0) = false := by simpa using c0
    exact ⟨v, r2, by simp [e0, h2], g2.mono (by omega), near_of hv⟩
theorem newReader_ok (code : List UInt8) : ∃ r, M.spec_newReader code = some r ∧ Good 0 r := by
  unfold M.spec_newReader
  by_cases h : 2000 < (code.length : Int)
  · refine ⟨(code.take 2000, 0), ?_, by simp; omega, by simp, by simp⟩
    have : gslice code 0 2000 = some (code.take 2000) := by
      rw [gslice_ok (by omega) (by omega) (by omega)]; simp
    simp [h, this]
  · exact ⟨(code, 0), by simp [h], by simp only; omega, by simp, by simp⟩

theorem implCoords_ok (v : List Int) (hb : v.length < 2000000) : M.impl_validCoords v = some (v.all fun x => decide (-100 ≤ x) && decide (x ≤ 100)) := by
  unfold M.impl_validCoords
  rw [loop_all (xs := v) (P := fun x => decide (-100 ≤ x) && decide (x ≤ 100)) (r := false)]
  · by_cases ha : (v.all fun x => decide (-100 ≤ x) && decide (x ≤ 100)) = true
    · simp only [ha, if_true, Option.bind_some, selim]
    · simp only [Bool.not_eq_true] at ha
      simp only [ha]; simp [selim]
  · intro i h
    have e1 : decide ((i : Int) < (v.length : Int)) = true := by simpa using h
    have e2 : w64 ((i : Int) + 1) = (i : Int) + 1 := w64_id (by omega) (by omega)
    simp only [e1, cond_true, gidx_nat h, Option.bind_some, e2]
    by_cases c1 : v[i] < -100
    · have c2 : ¬ (-100 ≤ v[i]) := by omega
      simp [c1, c2]
    · by_cases c3 : 100 < v[i]
      · have c4 : ¬ (v[i] ≤ 100) := by omega
        simp [c1, c3, c4]
      · simp [c1, c3, show -100 ≤ v[i] by omega, show v[i] ≤ 100 by omega]
  · simp
theorem impl_valid (v : List Int) (hb : v.length < 2000000) : M.impl_ValidVector v = some (isVec v) := by
  unfold M.impl_ValidVector
  simp only [implCoords_ok v hb, Option.bind_some]
  unfold isVec
  by_cases hl : v.length = 4
  · have e : ((v.length : Int) == 4) = true := by simp; omega
    rw [e, cond_true, decide_eq_true hl, Bool.true_and]
  · have e : ((v.length : Int) == 4) = false := by simp; omega
    rw [e, cond_false, decide_eq_false hl, Bool.false_and]
theorem spec_inR (n l h : Int) : M.spec_inRange n l h = some (decide (l ≤ n) && decide (n ≤ h)) := by
  unfold M.spec_inRange
  by_cases h1 : l ≤ n <;> simp [h1]
theorem spec_all (v : List Int) (l h : Int) (hb : v.length < 2000000) : M.spec_allIn v l h = some (v.all fun x => decide (l ≤ x) && decide (x ≤ h)) := by
  unfold M.spec_allIn
  rw [loop_all (xs := v) (P := fun x => decide (l ≤ x) && decide (x ≤ h)) (r := false)]
  · by_cases ha : (v.all fun x => decide (l ≤ x) && decide (x ≤ h)) = true
    · simp only [ha, if_true, Option.bind_some, selim]
    · simp only [Bool.not_eq_true] at ha
      simp [ha, selim]
  · intro i hi
    have e1 : decide ((i : Int) < (v.length : Int)) = true := by simpa using hi
    have e2 : w64 ((i : Int) + 1) = (i : Int) + 1 := w64_id (by omega) (by omega)
    simp only [e1, cond_true, gidx_nat hi, Option.bind_some, e2, spec_inR]
    cases (decide (l ≤ v[i]) && decide (v[i] ≤ h)) <;> rfl
  · simp
theorem spec_isVec (v : List Int) (hb : v.length < 2000000) : M.spec_isVector v = some (isVec v) := by
  unfold M.spec_isVector
  by_cases hl : v.length = 4
  · have e : ((v.length : Int) == 4) = true := by simp; omega
    simp [e, spec_all v _ _ hb, isVec, hl]
  · have e : ((v.length : Int) == 4) = false := by simp; omega
    simp [e, isVec, hl]
end Go.Vs

namespace Go.Vs

end Go.Vs

namespace Go.Vs

theorem gi0 {α : Type} {a : α} {l : List α} : gidx (a :: l) 0 = some a := gidx_nat (i := 0) (by simp)
theorem gi1 {α : Type} {a b : α} {l : List α} : gidx (a :: b :: l) 1 = some b := gidx_nat (i := 1) (by simp)
theorem i01 : w64 ((0 : Int) + 1) = 1 := w64_id (by omega) (by omega)
theorem i12 : w64 ((1 : Int) + 1) = 2 := w64_id (by omega) (by omega)
theorem i23 : w64 ((2 : Int) + 1) = 3 := w64_id (by omega) (by omega)
theorem i34 : w64 ((3 : Int) + 1) = 4 := w64_id (by omega) (by omega)
/-- How far two coordinates lie apart. -/
def gap (x y : Int) : Int := max (x - y) (y - x)
theorem gap_nonneg (x y : Int) : 0 ≤ gap x y := by unfold gap; omega
/-- A coordinate. -/
def Co (x : Int) : Prop := -100 ≤ x ∧ x ≤ 100
theorem gap_le {x y : Int} (hx : Co x) (hy : Co y) : gap x y ≤ 200 := by unfold gap; unfold Co at hx hy; omega
theorem sq_bounds {g : Int} (h0 : 0 ≤ g) (h : g ≤ 200) : 0 ≤ g * g ∧ g ≤ g * g ∧ g * g ≤ 40000 := by
  refine ⟨Int.mul_nonneg h0 h0, ?_, ?_⟩
  · by_cases h1 : g = 0
    · subst h1; simp
    · have := Int.mul_le_mul_of_nonneg_right (show (1 : Int) ≤ g by omega) h0; omega
  · have := Int.mul_le_mul h h h0 (by omega); omega
/-- The distance of a kind, from the gaps. -/
def dk (k g0 g1 g2 g3 : Int) : Int :=
  if k = 1 then g0 + g1 + g2 + g3 else if k = 2 then max (max (max (max 0 g0) g1) g2) g3 else if k = 3 then g0 * g0 + g1 * g1 + g2 * g2 + g3 * g3 else if k = 4 then min g0 1 + min g1 1 + min g2 1 + min g3 1 else -1

end Go.Vs

namespace Go.Vs

/-- What Distance answers. -/
def dist (k : Int) (a b : List Int) : Int :=
  if isVec a = true ∧ isVec b = true then dk k (gap (a.getD 0 0) (b.getD 0 0)) (gap (a.getD 1 0) (b.getD 1 0)) (gap (a.getD 2 0) (b.getD 2 0)) (gap (a.getD 3 0) (b.getD 3 0)) else -1
theorem isVec_cut {v : List Int} (h : isVec v = true) : ∃ a b c d, v = [a, b, c, d] ∧ Co a ∧ Co b ∧ Co c ∧ Co d := isVec_four h

/-- Gaps of two vectors. -/
structure Gaps (g0 g1 g2 g3 : Int) : Prop where
  n0 : 0 ≤ g0
  n1 : 0 ≤ g1
  n2 : 0 ≤ g2
  n3 : 0 ≤ g3
  m0 : g0 ≤ 200
  m1 : g1 ≤ 200
  m2 : g2 ≤ 200
  m3 : g3 ≤ 200
end Go.Vs

namespace Go.Vs

end Go.Vs

namespace Go.Vs

theorem isVec_mk {a b c d : Int} (ha : Co a) (hb : Co b) (hc : Co c) (hd : Co d) : isVec [a, b, c, d] = true := by
  rw [isVec_iff]
  refine ⟨rfl, ?_⟩
  simp only [List.mem_cons, List.not_mem_nil, or_false]
  rintro x (rfl | rfl | rfl | rfl)
  · exact ha
  · exact hb
  · exact hc
  · exact hd

end Go.Vs

namespace Go.Vs

end Go.Vs

namespace Go.Vs

end Go.Vs

namespace Go.Vs

end Go.Vs

namespace Go.Vs

end Go.Vs

namespace Go.Vs

abbrev Item := Int × (List Int) × Int
end Go.Vs

namespace Go.Vs

end Go.Vs

namespace Go.Vs

theorem w64_succ {i : Nat} (h : i < 4000000000000000000) : w64 ((i : Int) + 1) = ((i + 1 : Nat) : Int) := w64_id (by omega) (by omega)

section
variable {α S T R U : Type} {xs : List α}
/-- The first element that is so. -/
theorem loop_first (p : α → Bool) (r : Nat → R) {f : Int → Option (Int ⊕ (Unit ⊕ R))}
    (hs : ∀ i (h : i < xs.length), f (i : Int) = some (if p xs[i] = true then .inr (.inr (r i)) else .inl ((i + 1 : Nat) : Int))) (he : f (xs.length : Int) = some (.inr (.inl ()))) :
    loopM f 0 = some (match xs.findIdx? p with | some i => .inr (r i) | none => .inl ()) := by
  have key : ∀ m k : Nat, k + m = xs.length → loopM f (k : Int) = some (match (xs.drop k).findIdx? p with | some i => .inr (r (k + i)) | none => .inl ()) := by
    intro m
    induction m with
    | zero =>
      intro k hk
      have : k = xs.length := by omega
      subst this
      rw [loopM_eq, he]; simp [selim]
    | succ m ih =>
      intro k hk
      have hlt : k < xs.length := by omega
      rw [loopM_eq, hs k hlt, List.drop_eq_getElem_cons hlt, List.findIdx?_cons]
      by_cases hp : p xs[k] = true
      · simp [hp, selim]
      · simp only [hp, if_false, selim, Option.bind_some, Bool.false_eq_true]
        rw [ih (k + 1) (by omega)]
        cases h : List.findIdx? p (List.drop (k + 1) xs) with
        | none => rfl
        | some i => simp only [Option.map_some]; rw [show k + 1 + i = k + (i + 1) by omega]
  have := key xs.length 0 (by omega)
  simpa using this
end

/-! ## Valid stores as lists that ascend -/
/-- A list of items that is small enough to be looked at. -/
def SmallS (l : List Item) : Prop := l.length ≤ 1048576 ∧ ∀ x ∈ l, x.2.1.length ≤ 1048576
theorem SmallS.hb {l : List Item} (h : SmallS l) : ∀ x ∈ l, x.2.1.length < 2000000 := fun x hx => by have := h.2 x hx; omega
/-! ## Putting -/
/-! ## Draws -/
/-- An item that may be drawn. -/
def NearI (x : Item) : Prop := (0 ≤ x.1 ∧ x.1 ≤ 100) ∧ Near x.2.1 ∧ -1 ≤ x.2.2 ∧ x.2.2 ≤ 16
/-- A store that may be drawn. -/
def NearS (l : List Item) : Prop := l.length ≤ 17 ∧ ∀ x ∈ l, NearI x
theorem NearS.small {l : List Item} (h : NearS l) : SmallS l := ⟨by have := h.1; omega, fun x hx => by have := (h.2 x hx).2.1.1; omega⟩
end Go.Vs

namespace Go.Vs

end Go.Vs

namespace Go.Vs

section
variable {α S T R U : Type} {xs : List α}
end

end Go.Vs

namespace Go.Vs

/-! ## InBox -/
end Go.Vs

namespace Go.Vs

end Go.Vs

namespace Go.Vs

/-! ## What is drawn -/
theorem NearI.le {x : Item} (h : NearI x) : x.2.1.length ≤ 1048576 := by have := h.2.1.1; omega
section
variable {code : List UInt8}
end
end Go.Vs

namespace Go.Vs

end Go.Vs

namespace Go.Vs

end Go.Vs

namespace Go.Vs

end Go.Vs

namespace Go.Vs

noncomputable def G.sift {α : Type} (cmp : α → α → Option Int) (data_0 : List α) (lo_1 : Int) (hi_2 : Int) (first_3 : Int) : Option ((List α)) :=
  Option.bind (loopM (fun (s2 : (List α) × (Int)) => (bif decide (hi_2 ≤ (w64 ((w64 (2 * s2.2)) + 1))) then
  some (.inr (.inl s2.1))
 else
  Option.bind ((bif decide ((w64 ((w64 ((w64 (2 * s2.2)) + 1)) + 1)) < hi_2) then
  (gidx s2.1 (w64 (first_3 + (w64 ((w64 (2 * s2.2)) + 1))))).bind fun x8 =>
  (gidx s2.1 (w64 ((w64 (first_3 + (w64 ((w64 (2 * s2.2)) + 1)))) + 1))).bind fun x15 =>
  (cmp x8 x15).bind fun r23 =>
  some (decide (r23 < 0))
 else
  some false)) fun o6 =>
  Option.bind ((bif o6 then
  some (w64 ((w64 ((w64 (2 * s2.2)) + 1)) + 1))
 else
  some (w64 ((w64 (2 * s2.2)) + 1)))) fun o29 =>
  (gidx s2.1 (w64 (first_3 + s2.2))).bind fun x32 =>
  (gidx s2.1 (w64 (first_3 + o29))).bind fun x39 =>
  (cmp x32 x39).bind fun r47 =>
  (bif !(decide (r47 < 0)) then
  some (.inr (.inr s2.1))
 else
  (gidx s2.1 (w64 (first_3 + o29))).bind fun x52 =>
  (gidx s2.1 (w64 (first_3 + s2.2))).bind fun x59 =>
  (gidx s2.1 (w64 (first_3 + s2.2))).bind fun x66 =>
  (gidx (s2.1.set (w64 (first_3 + s2.2)).toNat x52) (w64 (first_3 + o29))).bind fun x72 =>
  some (.inl (((s2.1.set (w64 (first_3 + s2.2)).toNat x52).set (w64 (first_3 + o29)).toNat x59), o29))))) (data_0, lo_1)) (selim (fun t78 => some t78)
   (fun t81 => some t81))

noncomputable def G.heap {α : Type} (cmp : α → α → Option Int) (data_0 : List α) (a_1 : Int) (b_2 : Int) : Option ((List α)) :=
  Option.bind (loopM (fun (s2 : (List α) × (Int)) => (bif decide (0 ≤ s2.2) then
  (G.sift cmp s2.1 s2.2 (w64 (b_2 - a_1)) a_1).bind fun r6 =>
  some (.inl (r6, w64 (s2.2 - 1)))
 else
  some (.inr s2.1))) (data_0, w64 ((w64 ((w64 (b_2 - a_1)) - 1)).tdiv 2))) fun o1 =>
  Option.bind (loopM (fun (s14 : (List α) × (Int)) => (bif decide (0 ≤ s14.2) then
  (gidx s14.1 (w64 (a_1 + s14.2))).bind fun x18 =>
  (gidx s14.1 a_1).bind fun x25 =>
  (gidx s14.1 a_1).bind fun x32 =>
  (gidx (s14.1.set a_1.toNat x18) (w64 (a_1 + s14.2))).bind fun x38 =>
  (G.sift cmp ((s14.1.set a_1.toNat x18).set (w64 (a_1 + s14.2)).toNat x25) 0 s14.2 a_1).bind fun r44 =>
  some (.inl (r44, w64 (s14.2 - 1)))
 else
  some (.inr s14.1))) (o1, w64 ((w64 (b_2 - a_1)) - 1))) fun o13 =>
  some o13

noncomputable def G.o2 {α : Type} (cmp : α → α → Option Int) (data_0 : List α) (a_1 : Int) (b_2 : Int) (swaps_3 : Int) : Option (Int × Int × Int) :=
  (gidx data_0 b_2).bind fun x1 =>
  (gidx data_0 a_1).bind fun x8 =>
  (cmp x1 x8).bind fun r16 =>
  (bif decide (r16 < 0) then
  some (b_2, a_1, w64 (swaps_3 + 1))
 else
  some (a_1, b_2, swaps_3))

section
end
end Go.Vs

namespace Go.Vs

section
variable {α : Type} [Inhabited α]
def el (d : List α) (i : Nat) : α := d.getD i default
theorem el_lt {d : List α} {i : Nat} (h : i < d.length) : el d i = d[i] := by simp [el, List.getD, h]
/-- d' is d with the places a ≤ i < b permuted among themselves. -/
structure PermR (a b : Nat) (d d' : List α) : Prop where
  len : d'.length = d.length
  out : ∀ i, i < a ∨ b ≤ i → el d' i = el d i
  perm : d'.Perm d
theorem PermR.refl {a b : Nat} (d : List α) : PermR a b d d := ⟨rfl, fun _ _ => rfl, List.Perm.refl _⟩
theorem PermR.trans {a b : Nat} {d d' d'' : List α} (h : PermR a b d d') (k : PermR a b d' d'') : PermR a b d d'' :=
  ⟨k.len.trans h.len, fun i hi => (k.out i hi).trans (h.out i hi), k.perm.trans h.perm⟩
theorem PermR.mono {a b a' b' : Nat} {d d' : List α} (h : PermR a b d d') (ha : a' ≤ a) (hb : b ≤ b') : PermR a' b' d d' :=
  ⟨h.len, fun i hi => h.out i (by omega), h.perm⟩
/-- What is in the part is in the part. -/
theorem PermR.mem {a b : Nat} {d d' : List α} (h : PermR a b d d') (hab : a ≤ b) (hb : b ≤ d.length) {i : Nat} (h1 : a ≤ i) (h2 : i < b) : ∃ j, a ≤ j ∧ j < b ∧ el d' i = el d j := by
  have cut : ∀ (e : List α), e.length = d.length → e = e.take a ++ ((e.take b).drop a ++ e.drop b) := by
    intro e he
    rw [← List.append_assoc]
    have : e.take a ++ (e.take b).drop a = e.take b := by
      have := List.take_append_drop a (e.take b)
      rwa [List.take_take, Nat.min_eq_left hab] at this
    rw [this, List.take_append_drop]
  have hl := h.len
  have e1 : d'.take a = d.take a := by
    apply List.ext_getElem
    · simp [hl]
    · intro k h3 h4
      simp only [List.length_take] at h3 h4
      rw [List.getElem_take, List.getElem_take, ← el_lt, ← el_lt]
      exact h.out k (by omega)
  have e2 : d'.drop b = d.drop b := by
    apply List.ext_getElem
    · simp [hl]
    · intro k h3 h4
      simp only [List.length_drop] at h3 h4
      rw [List.getElem_drop, List.getElem_drop, ← el_lt, ← el_lt]
      exact h.out (b + k) (by omega)
  have hp := h.perm
  rw [cut d' hl, cut d rfl, e1, e2] at hp
  have hp2 := (List.perm_append_right_iff _).1 ((List.perm_append_left_iff _).1 hp)
  have hm : el d' i ∈ (d'.take b).drop a := by
    rw [el_lt (by omega)]
    refine List.mem_iff_getElem.2 ⟨i - a, by simp; omega, ?_⟩
    simp only [List.getElem_drop, List.getElem_take]
    congr 1; omega
  have hm2 := hp2.mem_iff.1 hm
  obtain ⟨k, hk, e⟩ := List.mem_iff_getElem.1 hm2
  simp only [List.length_drop, List.length_take] at hk
  refine ⟨a + k, by omega, by omega, ?_⟩
  rw [← e, el_lt (by omega)]
  simp only [List.getElem_drop, List.getElem_take]
end

/-- What is asked of the order of these elements. -/
structure Lin {α : Type} (lt : α → α → Bool) (p : α → Prop) : Prop where
  irrefl : ∀ x, p x → lt x x = false
  trans : ∀ x y z, p x → p y → p z → lt x y = true → lt y z = true → lt x z = true
  total : ∀ x y, p x → p y → x ≠ y → lt x y = true ∨ lt y x = true
theorem Lin.asymm {α : Type} {lt : α → α → Bool} {p : α → Prop} (h : Lin lt p) {x y : α} (hx : p x) (hy : p y) (hl : lt x y = true) : lt y x = false := by
  cases e : lt y x with
  | false => rfl
  | true => have := h.trans x y x hx hy hx hl e; rw [h.irrefl x hx] at this; cases this
/-- Not less than: transitive. -/
theorem Lin.ntrans {α : Type} {lt : α → α → Bool} {p : α → Prop} (h : Lin lt p) {x y z : α} (hx : p x) (hy : p y) (hz : p z) (h1 : lt x y = false) (h2 : lt y z = false) : lt x z = false := by
  cases e : lt x z with
  | false => rfl
  | true =>
    rcases Classical.em (x = y) with rfl | hne
    · rw [h2] at e; cases e
    · rcases h.total x y hx hy hne with h' | h'
      · rw [h1] at h'; cases h'
      · have := h.trans y x z hy hx hz h' e
        rw [h2] at this; cases this
def AllP {α : Type} [Inhabited α] (p : α → Prop) (d : List α) : Prop := ∀ i, i < d.length → p (el d i)
theorem AllP.of {α : Type} [Inhabited α] {p : α → Prop} {d : List α} (h : ∀ x ∈ d, p x) : AllP p d := fun i hi => h _ (by rw [el_lt hi]; exact List.getElem_mem _)
theorem AllP.perm {α : Type} [Inhabited α] {p : α → Prop} {d d' : List α} (h : AllP p d) (hp : d'.Perm d) : AllP p d' := by
  refine AllP.of fun x hx => ?_
  obtain ⟨i, hi, e⟩ := List.mem_iff_getElem.1 (hp.mem_iff.1 hx)
  rw [← e, ← el_lt hi]; exact h i hi
/-- Ascending on a ≤ i < b. -/
def Asc {α : Type} [Inhabited α] (lt : α → α → Bool) (a b : Nat) (d : List α) : Prop := ∀ i j, a ≤ i → i < j → j < b → lt (el d j) (el d i) = false
end Go.Vs

namespace Go.Vs

section
variable {α : Type} {cmp : α → α → Option Int} {lt : α → α → Bool} {p : α → Prop}
end

section
variable {α : Type} [Inhabited α] {cmp : α → α → Option Int} {lt : α → α → Bool} {p : α → Prop}
end
end Go.Vs

namespace Go.Vs

section
variable {α : Type} [Inhabited α] {cmp : α → α → Option Int} {lt : α → α → Bool} {p : α → Prop}
end
end Go.Vs

namespace Go.Vs

section
variable {α : Type} [Inhabited α] {cmp : α → α → Option Int} {lt : α → α → Bool} {p : α → Prop}

/-- What the partition gives. -/
structure Parted (lt : α → α → Bool) (a b : Nat) (d : List α) (m : Nat) (d' : List α) : Prop where
  ge : a ≤ m
  le : m < b
  perm : PermR a b d d'
  low : ∀ i, a ≤ i → i < m → lt (el d' i) (el d' m) = true
  high : ∀ i, m < i → i < b → lt (el d' i) (el d' m) = false
end
end Go.Vs

namespace Go.Vs

section
variable {α : Type} [Inhabited α] {cmp : α → α → Option Int} {lt : α → α → Bool} {p : α → Prop}

/-- Ascending, but for pairs that are both in the part. -/
def NIn (lt : α → α → Bool) (a0 b0 a b : Nat) (d : List α) : Prop := ∀ i j, a0 ≤ i → i < j → j < b0 → ¬ (a ≤ i ∧ j < b) → lt (el d j) (el d i) = false
theorem NIn.perm {a0 b0 a b : Nat} {d d' : List α} (h : NIn lt a0 b0 a b d) (hP : PermR a b d d') (ha : a0 ≤ a) (hab : a ≤ b) (hb : b ≤ b0) (hb0 : b0 ≤ d.length) : NIn lt a0 b0 a b d' := by
  intro i j h1 h2 h3 h4
  have cl : ∀ k, ∃ k', el d' k = el d k' ∧ ((a ≤ k ∧ k < b) → a ≤ k' ∧ k' < b) ∧ (¬ (a ≤ k ∧ k < b) → k' = k) := by
    intro k
    by_cases hk : a ≤ k ∧ k < b
    · obtain ⟨k', g1, g2, g3⟩ := hP.mem hab (by omega) hk.1 hk.2
      exact ⟨k', g3, fun _ => ⟨g1, g2⟩, fun h => absurd hk h⟩
    · exact ⟨k, hP.out k (by omega), fun h => absurd h hk, fun _ => rfl⟩
  obtain ⟨i', e1, q1, q2⟩ := cl i
  obtain ⟨j', e2, q3, q4⟩ := cl j
  rw [e1, e2]
  by_cases hi : a ≤ i ∧ i < b
  · have := q1 hi
    by_cases hj : a ≤ j ∧ j < b
    · exact absurd ⟨hi.1, hj.2⟩ h4
    · have := q4 hj; subst this; exact h i' j' (by omega) (by omega) h3 (by omega)
  · have := q2 hi; subst this
    by_cases hj : a ≤ j ∧ j < b
    · have := q3 hj; exact h i' j' h1 (by omega) (by omega) (by omega)
    · have := q4 hj; subst this; exact h i' j' h1 h2 h3 (by omega)
theorem NIn.done {a0 b0 a b : Nat} {d : List α} (h : NIn lt a0 b0 a b d) (hA : Asc lt a b d) : Asc lt a0 b0 d := by
  intro i j h1 h2 h3
  by_cases hc : a ≤ i ∧ j < b
  · exact hA i j hc.1 h2 hc.2
  · exact h i j h1 h2 h3 hc
end
end Go.Vs

namespace Go.Vs

abbrev Hit := Int × Int
/-- Which one of two hits is nearer. -/
def ltH (x y : Hit) : Bool := decide (x.2 < y.2 ∨ x.2 = y.2 ∧ x.1 < y.1)
theorem ltH_iff {x y : Hit} : ltH x y = true ↔ x.2 < y.2 ∨ x.2 = y.2 ∧ x.1 < y.1 := by simp [ltH]
theorem ltH_false {x y : Hit} : ltH x y = false ↔ ¬ (x.2 < y.2 ∨ x.2 = y.2 ∧ x.1 < y.1) := by simp [ltH]
theorem linH : Lin ltH (fun _ => True) where
  irrefl x _ := by rw [ltH_false]; omega
  trans x y z _ _ _ h1 h2 := by rw [ltH_iff] at *; omega
  total x y _ _ h := by
    rw [ltH_iff, ltH_iff]
    by_cases e : x.2 = y.2
    · have : x.1 ≠ y.1 := fun e2 => h (Prod.ext e2 e)
      omega
    · omega
end Go.Vs

namespace Go.Vs

/-- Into its place. -/
def insH (x : Hit) : List Hit → List Hit
  | [] => [x]
  | y :: r => if ltH x y then x :: y :: r else y :: insH x r
def AscH (l : List Hit) : Prop := l.Pairwise fun x y => ltH y x = false
theorem insH_perm (x : Hit) (l : List Hit) : (insH x l).Perm (x :: l) := by
  induction l with
  | nil => exact List.Perm.refl _
  | cons y r ih =>
    unfold insH
    split
    · exact List.Perm.refl _
    · exact (List.Perm.cons y ih).trans (List.Perm.swap x y r)
theorem insH_asc {x : Hit} {l : List Hit} (h : AscH l) : AscH (insH x l) := by
  induction l with
  | nil => exact List.pairwise_singleton _ _
  | cons y r ih =>
    obtain ⟨h1, h2⟩ := List.pairwise_cons.1 h
    unfold insH
    split
    · rename_i hlt
      refine List.pairwise_cons.2 ⟨fun z hz => ?_, h⟩
      rcases List.mem_cons.1 hz with rfl | hz
      · exact linH.asymm trivial trivial hlt
      · exact linH.ntrans trivial trivial trivial (h1 z hz) (linH.asymm trivial trivial hlt)
    · rename_i hlt
      refine List.pairwise_cons.2 ⟨fun z hz => ?_, ih h2⟩
      rcases List.mem_cons.1 ((insH_perm x r).mem_iff.1 hz) with rfl | hz
      · simpa using hlt
      · exact h1 z hz
theorem ltH_antisymm {x y : Hit} (h1 : ltH x y = false) (h2 : ltH y x = false) : x = y := by
  rcases Classical.em (x = y) with h | h
  · exact h
  · rcases linH.total x y trivial trivial h with h' | h'
    · rw [h1] at h'; cases h'
    · rw [h2] at h'; cases h'
theorem asc_uniq {l m : List Hit} (hl : AscH l) (hm : AscH m) (h : l.Perm m) : l = m :=
  List.Perm.eq_of_pairwise (le := fun x y => ltH y x = false) (fun _ _ _ _ h1 h2 => ltH_antisymm h2 h1) hl hm h
/-- All in order. -/
def isort (l : List Hit) : List Hit := l.foldl (fun S x => insH x S) []
theorem isort_spec (l : List Hit) : AscH (isort l) ∧ (isort l).Perm l := by
  have key : ∀ (l S : List Hit), AscH S → AscH (l.foldl (fun S x => insH x S) S) ∧ (l.foldl (fun S x => insH x S) S).Perm (S ++ l) := by
    intro l
    induction l with
    | nil => intro S h; exact ⟨h, by simp⟩
    | cons x r ih =>
      intro S h
      obtain ⟨h1, h2⟩ := ih (insH x S) (insH_asc h)
      refine ⟨h1, h2.trans ?_⟩
      have := List.Perm.append_right r (insH_perm x S)
      exact this.trans (List.perm_middle.symm)
  exact key l [] List.Pairwise.nil
theorem isort_uniq {l m : List Hit} (hm : AscH m) (h : m.Perm l) : isort l = m := asc_uniq (isort_spec l).1 hm ((isort_spec l).2.trans h.symm)
def topH (k : Nat) (l : List Hit) : List Hit := (isort l).take k
/-! ## What the heap keeps -/
/-! ## The searches -/
end Go.Vs

namespace Go.Vs

end Go.Vs

namespace Go.Vs

end Go.Vs

namespace Go.Vs

end Go.Vs

namespace Go.Vs

end Go.Vs

namespace Go.Vs

end Go.Vs

namespace Go.Vs

end Go.Vs

namespace Go.Vs

/-- Items that may be put into a tree. -/
structure OkL (l : List Item) : Prop where
  len : l.length ≤ 16
  vec : ∀ x ∈ l, isVec x.2.1 = true
  keys : (l.map (·.1)).Nodup
theorem OkL.inj {l : List Item} (h : OkL l) : ∀ x y, x ∈ l → y ∈ l → x.1 = y.1 → x = y := fun x y hx hy e => by
  obtain ⟨i, hi, rfl⟩ := List.mem_iff_getElem.1 hx
  obtain ⟨j, hj, rfl⟩ := List.mem_iff_getElem.1 hy
  have hpw := List.pairwise_iff_getElem.1 (List.pairwise_map.1 h.keys)
  rcases Nat.lt_trichotomy i j with h | h | h
  · exact absurd e (hpw i j hi hj h)
  · subst h; rfl
  · exact absurd e.symm (hpw j i hj hi h)
theorem OkL.sub {l m : List Item} (h : OkL l) (hs : List.Sublist m l) : OkL m :=
  ⟨Nat.le_trans hs.length_le h.len, fun x hx => h.vec x (hs.subset hx), List.Nodup.sublist (hs.map _) h.keys⟩
theorem OkL.perm {l m : List Item} (h : OkL l) (hp : m.Perm l) : OkL m :=
  ⟨by rw [hp.length_eq]; exact h.len, fun x hx => h.vec x (hp.mem_iff.1 hx), (hp.map (·.1)).nodup_iff.2 h.keys⟩

end Go.Vs

namespace Go.Vs

abbrev Nod := Int × Int × Int × Int
def nodesT : Tr Item → Nat → List Nod
  | .nil, _ => []
  | .node x n l r, a => (x.1, n, (bif l.isNil then -1 else ((a + 1 : Nat) : Int)), (bif r.isNil then -1 else ((a + 1 + (nodesT l (a + 1)).length : Nat) : Int))) :: (nodesT l (a + 1) ++ nodesT r (a + 1 + (nodesT l (a + 1)).length))
def Tr.size : Tr Item → Nat
  | .nil => 0
  | .node _ _ l r => l.size + r.size + 1
theorem nodesT_len : ∀ (t : Tr Item) (a : Nat), (nodesT t a).length = t.size
  | .nil, _ => rfl
  | .node x n l r, a => by simp only [nodesT, List.length_cons, List.length_append, nodesT_len l, nodesT_len r, Tr.size]
end Go.Vs

namespace Go.Vs

end Go.Vs

namespace Go.Vs

end Go.Vs

namespace Go.Vs

end Go.Vs

namespace Go.Vs

def itemsT : Tr Item → List Item
  | .nil => []
  | .node x _ l r => x :: (itemsT l ++ itemsT r)
/-- A tree's nodes stand in a list, from a place on. -/
def Sub (L : List Nod) (t : Tr Item) (a : Nat) : Prop := ∃ pre post, L = pre ++ nodesT t a ++ post ∧ pre.length = a
theorem Sub.left {L : List Nod} {x : Item} {q : Int} {l r : Tr Item} {a : Nat} (h : Sub L (.node x q l r) a) : Sub L l (a + 1) := by
  obtain ⟨pre, post, rfl, rfl⟩ := h
  exact ⟨pre ++ (nodesT (.node x q l r) pre.length).take 1, nodesT r (pre.length + 1 + (nodesT l (pre.length + 1)).length) ++ post, by simp [nodesT], by simp [nodesT]⟩
theorem Sub.right {L : List Nod} {x : Item} {q : Int} {l r : Tr Item} {a : Nat} (h : Sub L (.node x q l r) a) : Sub L r (a + 1 + l.size) := by
  obtain ⟨pre, post, rfl, rfl⟩ := h
  exact ⟨pre ++ (nodesT (.node x q l r) pre.length).take 1 ++ nodesT l (pre.length + 1), post, by simp [nodesT, nodesT_len], by simp [nodesT, nodesT_len]; omega⟩
theorem Sub.get {L : List Nod} {x : Item} {q : Int} {l r : Tr Item} {a : Nat} (h : Sub L (.node x q l r) a) : ∃ hl : a < L.length, L[a] = (x.1, q, (bif l.isNil then -1 else ((a + 1 : Nat) : Int)), (bif r.isNil then -1 else ((a + 1 + l.size : Nat) : Int))) := by
  obtain ⟨pre, post, rfl, rfl⟩ := h
  exact ⟨by simp [nodesT], by simp [nodesT, nodesT_len]⟩
theorem Sub.gidx {L : List Nod} {x : Item} {q : Int} {l r : Tr Item} {a : Nat} (h : Sub L (.node x q l r) a) : Go.Vs.gidx L (a : Int) = some (x.1, q, (bif l.isNil then -1 else ((a + 1 : Nat) : Int)), (bif r.isNil then -1 else ((a + 1 + l.size : Nat) : Int))) := by
  obtain ⟨hl, e⟩ := h.get
  rw [gidx_nat hl, e]
theorem sub_self (t : Tr Item) : Sub (nodesT t 0) t 0 := ⟨[], [], by simp, rfl⟩

end Go.Vs

namespace Go.Vs

def hitV (kd : Int) (v : List Int) (x : Item) : Hit := (x.1, dist kd x.2.1 v)
def hitsV (kd : Int) (v : List Int) (l : List Item) : List Hit := l.map (hitV kd v)
/-- How far a search looks. -/
def reachH (k : Nat) (V : List Hit) : Int := if (topH k V).length < k then 1000000 else ((topH k V).getD (k - 1) (0, 0)).2
/-! ## Lists with the same nearest ones -/
def SameT (k : Nat) (U V : List Hit) : Prop := topH k U = topH k V
theorem SameT.refl (k : Nat) (U : List Hit) : SameT k U U := rfl
theorem SameT.trans {k : Nat} {U V W : List Hit} (h : SameT k U V) (g : SameT k V W) : SameT k U W := Eq.trans h g
theorem SameT.symm {k : Nat} {U V : List Hit} (h : SameT k U V) : SameT k V U := Eq.symm h
theorem SameT.perm {k : Nat} {U V : List Hit} (h : U.Perm V) : SameT k U V := by
  show topH k U = topH k V
  unfold topH
  rw [isort_uniq (isort_spec V).1 ((isort_spec V).2.trans h.symm)]
theorem SameT.reach {k : Nat} {U V : List Hit} (h : SameT k U V) : reachH k U = reachH k V := by
  unfold reachH
  rw [h]
/-! ## Trees find the nearest -/
/-! ## At how many nodes they look -/
noncomputable def vis (kd : Int) (v : List Int) (k : Nat) : Tr Item → List Hit → Nat
  | .nil, _ => 0
  | .node x q l r, P =>
    if dist kd x.2.1 v ≤ q then
      vis kd v k l (P ++ [hitV kd v x]) + 1 + (if q - dist kd x.2.1 v ≤ reachH k (P ++ [hitV kd v x] ++ hitsV kd v (itemsT l)) then vis kd v k r (P ++ [hitV kd v x] ++ hitsV kd v (itemsT l)) else 0)
    else
      vis kd v k r (P ++ [hitV kd v x]) + 1 + (if dist kd x.2.1 v - q ≤ reachH k (P ++ [hitV kd v x] ++ hitsV kd v (itemsT r)) then vis kd v k l (P ++ [hitV kd v x] ++ hitsV kd v (itemsT r)) else 0)
end Go.Vs

namespace Go.Vs

/-! ## The program's search -/
/-! ## What is answered -/
end Go.Vs

namespace Go.Vs

/-! ## Exact laws -/
end Go.Vs

namespace Go.Vs

end Go.Vs

namespace Go.Vs

/-! ## The first of the least -/
def IsLeast (D : Nat → Int) (n k : Nat) : Prop := k < n ∧ (∀ j, j < n → D k ≤ D j) ∧ ∀ j, j < k → D k < D j
def leastN (D : Nat → Int) : Nat → Nat
  | 0 => 0
  | n + 1 => if D n < D (leastN D n) then n else leastN D n
theorem leastN_one (D : Nat → Int) : leastN D 1 = 0 := by simp [leastN]
theorem leastN_is (D : Nat → Int) : ∀ n, 1 ≤ n → IsLeast D n (leastN D n)
  | 0, h => by omega
  | 1, _ => by
    rw [leastN_one]
    refine ⟨by omega, fun j hj => ?_, fun j hj => by omega⟩
    have : j = 0 := by omega
    subst this; omega
  | n + 2, _ => by
    obtain ⟨h1, h2, h3⟩ := leastN_is D (n + 1) (by omega)
    unfold leastN
    split
    · rename_i h
      refine ⟨by omega, fun j hj => ?_, fun j hj => ?_⟩
      · rcases Nat.lt_or_ge j (n + 1) with hj' | hj'
        · have := h2 j hj'; omega
        · have : j = n + 1 := by omega
          subst this; omega
      · have := h2 j hj; omega
    · rename_i h
      refine ⟨by omega, fun j hj => ?_, h3⟩
      rcases Nat.lt_or_ge j (n + 1) with hj' | hj'
      · exact h2 j hj'
      · have : j = n + 1 := by omega
        subst this; omega
def SmallC (cs : List (List Int)) : Prop := cs.length < 2000000 ∧ ∀ c ∈ cs, c.length < 2000000
/-! ## Drawn centres -/
def NearC (cs : List (List Int)) : Prop := cs.length ≤ 5 ∧ ∀ c ∈ cs, Near c
theorem NearC.small {cs : List (List Int)} (h : NearC cs) : SmallC cs := ⟨by have := h.1; omega, fun c hc => by have := (h.2 c hc).1; omega⟩
/-! ## Laws -/
theorem SmallC.sub {cs ds : List (List Int)} (h : SmallC cs) (hs : ds.Sublist cs) : SmallC ds := ⟨by have := hs.length_le; have := h.1; omega, fun c hc => h.2 c (hs.subset hc)⟩
/-! ## Items and their centres -/
/-! ## Spreads -/
end Go.Vs

namespace Go.Vs

section
variable {cmp : Int → Int → Option Int} {D : Nat → Int} {n : Nat}
end

end Go.Vs

namespace Go.Vs

end Go.Vs

namespace Go.Vs

/-! ## Settling -/
end Go.Vs

namespace Go.Vs

/-! ## What searches cost -/
/-! ## Exact laws -/
end Go.Vs

namespace Go.Vs

/-! ## All items are in a list -/
end Go.Vs

namespace Go.Vs

end Go.Vs

namespace Go.Vs

def isHalf (v : List Int) : Bool := decide (v.length = 2) && v.all fun x => decide (-100 ≤ x) && decide (x ≤ 100)
theorem isHalf_iff {v : List Int} : isHalf v = true ↔ v.length = 2 ∧ ∀ x ∈ v, -100 ≤ x ∧ x ≤ 100 := by
  unfold isHalf; simp
theorem isHalf_cut {v : List Int} (h : isHalf v = true) : ∃ a b, v = [a, b] ∧ Co a ∧ Co b := by
  obtain ⟨h1, h2⟩ := isHalf_iff.1 h
  match v, h1 with
  | [a, b], _ => exact ⟨a, b, rfl, h2 a (by simp), h2 b (by simp)⟩
abbrev Book := List (List Int) × List (List Int)
def okH (l : List (List Int)) : Bool := decide (l.length = 4) && l.all isHalf
def okB (b : Book) : Bool := okH b.1 && okH b.2
theorem okH_iff {l : List (List Int)} : okH l = true ↔ l.length = 4 ∧ ∀ v ∈ l, isHalf v = true := by unfold okH; simp
theorem okB_iff {b : Book} : okB b = true ↔ okH b.1 = true ∧ okH b.2 = true := by unfold okB; simp
def SmallB (b : Book) : Prop := SmallC b.1 ∧ SmallC b.2
theorem specHalves_ok {l : List (List Int)} (s : SmallC l) : M.spec_validHalves l = some (l.all isHalf) := by
  unfold M.spec_validHalves
  have hl := s.1
  rw [loop_all (xs := l) (P := isHalf) (r := false)]
  · by_cases h : l.all isHalf = true
    · rw [if_pos h, h]; simp [selim]
    · rw [if_neg h]; simp only [Bool.not_eq_true] at h; rw [h]; simp [selim]
  · intro i hi
    have hx := s.2 _ (List.getElem_mem hi)
    have e5 : decide ((i : Int) < (l.length : Int)) = true := decide_eq_true (by omega)
    have e6 : w64 ((i : Int) + 1) = (i : Int) + 1 := w64_id (by omega) (by omega)
    simp only [e5, cond_true, gidx_nat hi, Option.bind_some, spec_all l[i] _ _ hx, e6]
    unfold isHalf
    by_cases h2 : l[i].length = 2
    · have : ((l[i].length : Int) != 2) = false := by rw [h2]; rfl
      simp only [this, cond_false, Option.bind_some, h2, decide_true, Bool.true_and]
      cases (l[i].all fun x => decide (-100 ≤ x) && decide (x ≤ 100)) <;> simp
    · have : ((l[i].length : Int) != 2) = true := by simp; omega
      simp [this, h2]
  · simp
theorem specBook_ok {b : Book} (s : SmallB b) : M.spec_validBook (b.1, b.2) = some (okB b) := by
  unfold M.spec_validBook okB okH
  simp only [specHalves_ok s.1, specHalves_ok s.2, Option.bind_some]
  have e : ∀ n : Nat, ((n : Int) == 4) = decide (n = 4) := by
    intro n; rw [Bool.eq_iff_iff]; simp; omega
  rw [e, e]
  cases decide (b.1.length = 4) <;> cases decide (b.2.length = 4) <;> cases b.1.all isHalf <;> simp

end Go.Vs

namespace Go.Vs

/-- The sum of squares between two halves. -/
def hd2 (u v : List Int) : Int := gap (u.getD 0 0) (v.getD 0 0) * gap (u.getD 0 0) (v.getD 0 0) + gap (u.getD 1 0) (v.getD 1 0) * gap (u.getD 1 0) (v.getD 1 0)
theorem specHalfDist_ok {u v : List Int} (hu : isHalf u = true) (hv : isHalf v = true) : M.spec_halfDist u v = some (hd2 u v) := by
  obtain ⟨a, b, rfl, ha, hb⟩ := isHalf_cut hu
  obtain ⟨x, y, rfl, hx, hy⟩ := isHalf_cut hv
  have e : ∀ p q, Co p → Co q → M.spec_size (w64 (p - q)) = some (gap p q) := by
    intro p q hp hq
    unfold Co at hp hq
    unfold M.spec_size
    rw [w64_id (n := p - q) (by omega) (by omega), w64_id (n := 0 - (p - q)) (by omega) (by omega)]
    unfold gap
    congr 1; omega
  have ea := e a x ha hx
  have eb := e b y hb hy
  have s0 := sq_bounds (gap_nonneg a x) (gap_le ha hx)
  have s1 := sq_bounds (gap_nonneg b y) (gap_le hb hy)
  have eh : hd2 [a, b] [x, y] = gap a x * gap a x + gap b y * gap b y := rfl
  rw [eh]
  generalize gap a x = g0 at *
  generalize gap b y = g1 at *
  have q0 : w64 (g0 * g0) = g0 * g0 := w64_id (by omega) (by omega)
  have q1 : w64 (g1 * g1) = g1 * g1 := w64_id (by omega) (by omega)
  have e0 : w64 (0 + g0 * g0) = g0 * g0 := by rw [w64_id (by omega) (by omega)]; omega
  have e1 : w64 (g0 * g0 + g1 * g1) = g0 * g0 + g1 * g1 := w64_id (by omega) (by omega)
  have l2 : (([a, b] : List Int).length : Int) = 2 := rfl
  have d02 : decide ((0 : Int) < 2) = true := rfl
  have d12 : decide ((1 : Int) < 2) = true := rfl
  have d22 : decide ((2 : Int) < 2) = false := rfl
  have k1 : ((3 : Int) == 1) = false := rfl
  have k2 : ((3 : Int) == 2) = false := rfl
  have k3 : ((3 : Int) == 3) = true := rfl
  unfold M.spec_halfDist M.spec_dist
  let st : Nat → Int × Int := fun i => if i = 0 then (0, 0) else if i = 1 then (g0 * g0, 1) else (g0 * g0 + g1 * g1, 2)
  have key := loop_run (R := Int) (r := g0 * g0 + g1 * g1) (f := fun (s2 : (Int) × (Int)) => (bif decide (s2.2 < (([a, b] : List Int).length : Int)) then
  Option.bind ((gidx [a, b] s2.2).bind fun x9 =>
  (gidx [x, y] s2.2).bind fun x14 =>
  (M.spec_size (w64 (x9 - x14))).bind fun r20 =>
  (bif (3 : Int) == 1 then
  some (w64 (s2.1 + r20))
 else
  (bif (3 : Int) == 2 then
  some (max s2.1 r20)
 else
  (bif (3 : Int) == 3 then
  some (w64 (s2.1 + (w64 (r20 * r20))))
 else
  (M.spec_toInt (decide (0 < r20))).bind fun r27 =>
  some (w64 (s2.1 + r27)))))) fun o8 =>
  some (.inl (o8, w64 (s2.2 + 1)))
 else
  some (.inr s2.1))) 2 st (by
    intro i hi
    rcases (show i = 0 ∨ i = 1 by omega) with rfl | rfl
    · simp only [st, if_true, l2, d02, gi0, i01, q0, e0, ea, k1, k2, k3, cond_true, cond_false, Option.bind_some]; rfl
    · have st1 : st 1 = (g0 * g0, 1) := rfl
      have st2 : st (1 + 1) = (g0 * g0 + g1 * g1, 2) := rfl
      rw [st1, st2]
      simp only [l2, d12, gi1, i12, q1, e1, eb, k1, k2, k3, cond_true, cond_false, Option.bind_some]) (by
    simp only [st, l2]; rfl)
  simp only [st, if_true] at key
  rw [key]; rfl
def hD (l : List (List Int)) (v : List Int) (j : Nat) : Int := hd2 (l.getD j []) v
theorem hD_at {l : List (List Int)} {v : List Int} {j : Nat} (h : j < l.length) : hD l v j = hd2 l[j] v := by
  unfold hD; simp [List.getD, h]
/-- The number of the closest half. -/
def clo (l : List (List Int)) (v : List Int) : Nat := leastN (hD l v) l.length
theorem clo_is {l : List (List Int)} {v : List Int} (h : okH l = true) : IsLeast (hD l v) 4 (clo l v) := by
  have h4 := (okH_iff.1 h).1
  have := leastN_is (hD l v) 4 (by omega)
  unfold clo; rw [h4]; exact this
theorem clo_lt {l : List (List Int)} {v : List Int} (h : okH l = true) : clo l v < 4 := (clo_is h).1
theorem specClo_ok {l : List (List Int)} {v : List Int} (hl : okH l = true) (hv : isHalf v = true) : M.spec_closest l v = some (clo l v : Int) := by
  unfold M.spec_closest
  obtain ⟨c4, hvec⟩ := okH_iff.1 hl
  have hloop := loop_run (R := Int) (f := fun (s2 : (Int) × (Int)) => (bif decide (s2.2 < (l.length : Int)) then
  Option.bind ((gidx l s2.2).bind fun x6 =>
  (M.spec_halfDist x6 v).bind fun r16 =>
  (gidx l s2.1).bind fun x19 =>
  (M.spec_halfDist x19 v).bind fun r30 =>
  (bif decide (r16 < r30) then
  some s2.2
 else
  some s2.1)) fun o5 =>
  some (.inl (o5, w64 (s2.2 + 1)))
 else
  some (.inr s2.1))) (r := (clo l v : Int)) (l.length - 1) (fun i => ((leastN (hD l v) (i + 1) : Int), ((i + 1 : Nat) : Int))) (by
    intro i hi
    have hi1 : i + 1 < l.length := by omega
    have e1 : decide (((i + 1 : Nat) : Int) < (l.length : Int)) = true := decide_eq_true (by omega)
    have e2 : w64 (((i + 1 : Nat) : Int) + 1) = ((i + 1 + 1 : Nat) : Int) := w64_succ (by omega)
    have hk := (leastN_is (hD l v) (i + 1) (by omega)).1
    have hk' : leastN (hD l v) (i + 1) < l.length := by omega
    simp only [e1, cond_true, gidx_nat hi1, gidx_nat hk', Option.bind_some, specHalfDist_ok (hvec _ (List.getElem_mem hi1)) hv, specHalfDist_ok (hvec _ (List.getElem_mem hk')) hv, e2, ← hD_at hi1, ← hD_at hk']
    rw [leastN.eq_2 (hD l v) (i + 1)]
    by_cases hlt : hD l v (i + 1) < hD l v (leastN (hD l v) (i + 1))
    · simp only [hlt, decide_true, cond_true, if_true, Option.bind_some]
    · simp only [hlt, decide_false, cond_false, if_false, Option.bind_some]) (by
    have e0 : l.length - 1 + 1 = l.length := by omega
    have e1 : decide ((l.length : Int) < (l.length : Int)) = false := decide_eq_false (by omega)
    simp only [e0, e1, cond_false, clo])
  simp only [leastN_one, Nat.zero_add, Int.cast_ofNat_Int] at hloop
  rw [hloop]; rfl
theorem isVec_halves {v : List Int} (h : isVec v = true) : isHalf (v.take 2) = true ∧ isHalf (v.drop 2) = true := by
  obtain ⟨a, b, c, d, rfl, ha, hb, hc, hd⟩ := isVec_cut h
  unfold Co at *
  simp [isHalf]; omega
/-- The code of a vector; the vector of a code. -/
def encF (b : Book) (v : List Int) : Nat := clo b.1 (v.take 2) * 4 + clo b.2 (v.drop 2)
theorem encF_lt {b : Book} {v : List Int} (h : okB b = true) : encF b v < 16 := by
  have h1 := clo_lt (v := v.take 2) (okB_iff.1 h).1
  have h2 := clo_lt (v := v.drop 2) (okB_iff.1 h).2
  unfold encF; omega
theorem specEnc_ok {b : Book} {v : List Int} (h : okB b = true) (hv : isVec v = true) : M.spec_encode (b.1, b.2) v = some (encF b v : Int) := by
  unfold M.spec_encode
  obtain ⟨hb1, hb2⟩ := okB_iff.1 h
  obtain ⟨hh1, hh2⟩ := isVec_halves hv
  have hl := (isVec_iff.1 hv).1
  have g1 : gslice v 0 2 = some (v.take 2) := by rw [gslice_ok (by omega) (by omega) (by omega)]; rfl
  have g2 : gslice v 2 (v.length : Int) = some (v.drop 2) := by
    rw [gslice_ok (by omega) (by omega) (by omega), Int.toNat_natCast, List.take_length]; rfl
  have h1 := clo_lt (v := v.take 2) hb1
  have h2 := clo_lt (v := v.drop 2) hb2
  simp only [g1, g2, Option.bind_some, specClo_ok hb1 hh1, specClo_ok hb2 hh2]
  rw [w64_id (n := (clo b.1 (v.take 2) : Int) * 4) (by omega) (by omega), w64_id (by omega) (by omega)]
  unfold encF; push_cast; rfl
end Go.Vs

namespace Go.Vs

end Go.Vs

namespace Go.Vs

end Go.Vs

namespace Go.Vs

end Go.Vs

namespace Go.Vs

end Go.Vs

namespace Go.Vs

theorem halves_ok {k : Nat} (hk : k ≤ 400000) {r : List UInt8 × Int} (hr : Good k r) : ∃ l r', M.spec_someHalves (r.1, r.2) = some (l, (r'.1, r'.2)) ∧ Good (k + 24) r' ∧ okH l = true := by
  obtain ⟨x1, ⟨p1, q1⟩, h1, g1, a1⟩ := coord_ok (by omega) hr
  obtain ⟨x2, ⟨p2, q2⟩, h2, g2, a2⟩ := coord_ok (by omega) g1
  obtain ⟨x3, ⟨p3, q3⟩, h3, g3, a3⟩ := coord_ok (by omega) g2
  obtain ⟨x4, ⟨p4, q4⟩, h4, g4, a4⟩ := coord_ok (by omega) g3
  obtain ⟨x5, ⟨p5, q5⟩, h5, g5, a5⟩ := coord_ok (by omega) g4
  obtain ⟨x6, ⟨p6, q6⟩, h6, g6, a6⟩ := coord_ok (by omega) g5
  obtain ⟨x7, ⟨p7, q7⟩, h7, g7, a7⟩ := coord_ok (by omega) g6
  obtain ⟨x8, ⟨p8, q8⟩, h8, g8, a8⟩ := coord_ok (by omega) g7
  have h1' : M.spec_someCoord (r.1, r.2) = some (x1, (p1, q1)) := h1
  have hh : ∀ {a b : Int}, (-100 ≤ a ∧ a ≤ 100) → (-100 ≤ b ∧ b ≤ 100) → isHalf [a, b] = true := fun ha hb => by
    simp [isHalf]; omega
  refine ⟨[[x1, x2], [x3, x4], [x5, x6], [x7, x8]], (p8, q8), ?_, g8, ?_⟩
  · have e : ∀ n : Nat, n < 10 → w64 ((n : Int) + 1) = (n : Int) + 1 := fun n hn => w64_id (by omega) (by omega)
    have e0 : w64 ((0 : Int) + 1) = 1 := e 0 (by omega)
    have e1 : w64 ((1 : Int) + 1) = 2 := e 1 (by omega)
    have e2 : w64 ((2 : Int) + 1) = 3 := e 2 (by omega)
    have e3 : w64 ((3 : Int) + 1) = 4 := e 3 (by omega)
    have ga : ∀ (xs : List (List Int)) (x : List Int), xs.length < 10 → gapp xs [x] = some (xs ++ [x]) := fun xs x hx => gapp_ok (by simp; omega)
    unfold M.spec_someHalves
    rw [loopM_eq]
    simp only [show decide ((0 : Int) < 4) = true from rfl, cond_true, h1', h2, Option.bind_some, ga [] [x1, x2] (by simp), selim, e0, List.nil_append]
    rw [loopM_eq]
    simp only [show decide ((1 : Int) < 4) = true from rfl, cond_true, h3, h4, Option.bind_some, ga [[x1, x2]] [x3, x4] (by simp), selim, e1, List.cons_append, List.nil_append]
    rw [loopM_eq]
    simp only [show decide ((2 : Int) < 4) = true from rfl, cond_true, h5, h6, Option.bind_some, ga [[x1, x2], [x3, x4]] [x5, x6] (by simp), selim, e2, List.cons_append, List.nil_append]
    rw [loopM_eq]
    simp only [show decide ((3 : Int) < 4) = true from rfl, cond_true, h7, h8, Option.bind_some, ga [[x1, x2], [x3, x4], [x5, x6]] [x7, x8] (by simp), selim, e3, List.cons_append, List.nil_append]
    rw [loopM_eq]
    simp only [show decide ((4 : Int) < 4) = false from rfl, cond_false, Option.bind_some, selim]
  · refine okH_iff.2 ⟨rfl, fun v hv => ?_⟩
    simp only [List.mem_cons, List.not_mem_nil, or_false] at hv
    rcases hv with rfl | rfl | rfl | rfl
    · exact hh a1 a2
    · exact hh a3 a4
    · exact hh a5 a6
    · exact hh a7 a8
theorem half_near {v : List Int} (h : isHalf v = true) : Near v := by
  obtain ⟨h1, h2⟩ := isHalf_iff.1 h
  exact ⟨by omega, fun x hx => by have := h2 x hx; omega⟩
theorem okH_near {l : List (List Int)} (h : okH l = true) : NearC l := by
  obtain ⟨h1, h2⟩ := okH_iff.1 h
  exact ⟨by omega, fun v hv => half_near (h2 v hv)⟩
theorem spoilH_ok {k : Nat} (hk : k ≤ 700000) {r : List UInt8 × Int} (hr : Good k r) : ∃ u r', M.spec_reader_spoil r [1, 2] 101 = some (u, r') ∧ Good (k + 3) r' ∧ Near u := by
  obtain ⟨x1, r1, h1, g1, a1, b1, _⟩ := pick_ok (by omega) hr 20
  unfold M.spec_reader_spoil
  simp only [copy_ok (v := [1, 2]) (by simp), Option.bind_some, h1]
  have near12 : Near [1, 2] := ⟨by simp, fun x hx => by simp at hx; omega⟩
  by_cases c0 : x1 = 0
  · refine ⟨[1, 2, 101], r1, ?_, g1.mono (by omega), by simp, fun x hx => by simp at hx; omega⟩
    have hga : gapp ([1, 2] : List Int) [101] = some [1, 2, 101] := by rw [gapp_ok (by simp)]; rfl
    simp [c0, hga]
  · have e0 : (x1 == 0) = false := by simpa using c0
    simp only [e0, cond_false]
    by_cases c1 : x1 = 1
    · refine ⟨[2], r1, ?_, g1.mono (by omega), by simp, fun x hx => by simp at hx; omega⟩
      have : gslice ([1, 2] : List Int) 1 2 = some [2] := rfl
      simp [c1, this]
    · have e1 : (x1 == 1) = false := by simpa using c1
      simp only [e1, cond_false]
      by_cases c2 : x1 = 2
      · obtain ⟨i, r2, h2, g2, a2, b2, _⟩ := pick_ok (by omega) g1 2
        obtain ⟨y, r3, h3, g3, m3⟩ := one_ok (by omega) g2 (list := [-1, 101, 0, 1]) (by simp)
        have b2 := b2 (by omega)
        obtain ⟨z, hz, _⟩ := gidx_lt' (xs := ([1, 2] : List Int)) a2 (by simpa using b2)
        refine ⟨([1, 2] : List Int).set i.toNat y, r3, ?_, g3, by simp, fun x hx => ?_⟩
        · simp [c2, h2, h3, hz]
        · rcases List.mem_or_eq_of_mem_set hx with h | h
          · simp at h; omega
          · subst h
            simp only [List.mem_cons, List.not_mem_nil, or_false] at m3
            omega
      · have e2 : (x1 == 2) = false := by simpa using c2
        exact ⟨[1, 2], r1, by simp [e2], g1.mono (by omega), near12⟩
def NearB (b : Book) : Prop := NearC b.1 ∧ NearC b.2
theorem NearB.small {b : Book} (h : NearB b) : SmallB b := ⟨h.1.small, h.2.small⟩
theorem anyBook_ok {k : Nat} (hk : k ≤ 300000) {r : List UInt8 × Int} (hr : Good k r) : ∃ b r', M.spec_anyBook (r.1, r.2) = some ((b.1, b.2), (r'.1, r'.2)) ∧ Good (k + 100) r' ∧ NearB b := by
  obtain ⟨l, ⟨p1, p2⟩, h1, g1, o1⟩ := halves_ok (by omega) hr
  obtain ⟨m, ⟨q1, q2⟩, h2, g2, o2⟩ := halves_ok (by omega) g1
  obtain ⟨x, ⟨s1, s2⟩, h3, g3, _⟩ := pick_ok (by omega) g2 24
  have n1 := okH_near o1
  have n2 := okH_near o2
  have l1 := (okH_iff.1 o1).1
  have l2 := (okH_iff.1 o2).1
  unfold M.spec_anyBook
  simp only [h1, h2, h3, Option.bind_some]
  by_cases c0 : x = 0
  · have hs : gslice l 1 (l.length : Int) = some (l.drop 1) := by rw [gslice_ok (by omega) (by omega) (by omega)]; simp
    simp only [c0, beq_self_eq_true, cond_true, hs, Option.bind_some]
    exact ⟨(l.drop 1, m), (s1, s2), rfl, g3.mono (by omega), ⟨by rw [List.length_drop]; omega, fun c hc => n1.2 c (List.mem_of_mem_drop hc)⟩, n2⟩
  · have e0 : (x == 0) = false := by simpa using c0
    simp only [e0, cond_false]
    by_cases c1 : x = 1
    · obtain ⟨i, ⟨t1, t2⟩, h4, g4, a4, b4, _⟩ := pick_ok (by omega) g3 4
      have b4 := b4 (by omega)
      obtain ⟨u, ⟨w1, w2⟩, h5, g5, nu⟩ := spoilH_ok (by omega) g4
      obtain ⟨e, he, _⟩ := gidx_lt' (xs := m) a4 (by omega)
      simp only [c1, beq_self_eq_true, cond_true, h4, h5, he, Option.bind_some]
      refine ⟨(l, m.set i.toNat u), (w1, w2), rfl, g5.mono (by omega), n1, by rw [List.length_set]; omega, fun c hc => ?_⟩
      rcases List.mem_or_eq_of_mem_set hc with hc | rfl
      · exact n2.2 c hc
      · exact nu
    · have e1 : (x == 1) = false := by simpa using c1
      simp only [e1, cond_false, Option.bind_some]
      exact ⟨(l, m), (s1, s2), rfl, g3.mono (by omega), n1, n2⟩
theorem drawEncode_ok (code : List UInt8) : ∃ (b : Book) (v : List Int), M.spec_DrawEncodeVector code = some ((b.1, b.2), v) ∧ NearB b ∧ Near v := by
  obtain ⟨⟨r1, r2⟩, h, g⟩ := newReader_ok code
  obtain ⟨b, ⟨q1, q2⟩, h1, g1, n⟩ := anyBook_ok (by omega) g
  obtain ⟨v, ⟨w1, w2⟩, h2, _, nv⟩ := any_ok (by omega) g1
  exact ⟨b, v, by unfold M.spec_DrawEncodeVector; simp only [h, h1, h2, Option.bind_some], n, nv⟩
/-! ## Planes -/
def NearP (l : List (List Int)) : Prop := l.length ≤ 7 ∧ ∀ c ∈ l, Near c
theorem NearP.small {l : List (List Int)} (h : NearP l) : SmallC l := ⟨by have := h.1; omega, fun c hc => by have := (h.2 c hc).1; omega⟩
end Go.Vs

namespace Go.Vs

theorem implSide_ok {l : List (List Int)} (s : SmallC l) : M.impl_validSide l = some (okH l) := by
  unfold M.impl_validSide okH
  have hl := s.1
  by_cases h4 : l.length = 4
  · have e0 : ((l.length : Int) != 4) = false := by simp; omega
    rw [e0, cond_false, decide_eq_true h4, Bool.true_and]
    rw [loop_all (xs := l) (P := isHalf) (r := false)]
    · by_cases h : l.all isHalf = true
      · rw [if_pos h, h]; rfl
      · rw [if_neg h]; simp only [Bool.not_eq_true] at h; rw [h]; rfl
    · intro i hi
      have hx := s.2 _ (List.getElem_mem hi)
      have e5 : decide ((i : Int) < (l.length : Int)) = true := decide_eq_true (by omega)
      have e6 : w64 ((i : Int) + 1) = (i : Int) + 1 := w64_id (by omega) (by omega)
      simp only [e5, cond_true, gidx_nat hi, Option.bind_some, implCoords_ok l[i] hx, e6]
      unfold isHalf
      by_cases h2 : l[i].length = 2
      · have e2 : ((l[i].length : Int) != 2) = false := by rw [h2]; rfl
        rw [e2, cond_false, decide_eq_true h2, Bool.true_and]
        cases (l[i].all fun x => decide (-100 ≤ x) && decide (x ≤ 100)) <;> simp
      · have e2 : ((l[i].length : Int) != 2) = true := by simp; omega
        rw [e2, cond_true, decide_eq_false h2, Bool.false_and]
        simp
    · simp
  · have e0 : ((l.length : Int) != 4) = true := by simp; omega
    rw [e0, cond_true, decide_eq_false h4, Bool.false_and]
theorem implBook_ok {b : Book} (s : SmallB b) : M.impl_ValidBook (b.1, b.2) = some (okB b) := by
  unfold M.impl_ValidBook okB
  simp only [implSide_ok s.1, implSide_ok s.2, Option.bind_some]
  cases okH b.1 <;> cases okH b.2 <;> rfl
/-! ## Tables -/
theorem sq_gap (a b : Int) : gap a b * gap a b = (b - a) * (b - a) := by
  unfold gap
  rcases Int.le_total a b with h | h
  · rw [Int.max_eq_right (by omega)]
  · rw [Int.max_eq_left (by omega)]; grind
theorem tab_inner {T u v : List Int} {i : Nat} (hT : T.length = 4) (hi : i < 4) (h0 : T[i]'(by omega) = 0) (hu : isHalf u = true) (hv : isHalf v = true) :
    loopM (fun (s21 : (List Int) × (Int)) => (bif decide (s21.2 < (v.length : Int)) then
  (gidx v s21.2).bind fun x25 =>
  (gidx s21.1 (i : Int)).bind fun x31 =>
  (gidx u s21.2).bind fun x35 =>
  (gidx u s21.2).bind fun x41 =>
  (gidx s21.1 (i : Int)).bind fun x49 =>
  some (.inl ((s21.1.set (i : Int).toNat (w64 (x31 + (w64 ((w64 (x25 - x35)) * (w64 (x25 - x41))))))), w64 (s21.2 + 1)))
 else
  some (.inr s21.1))) (T, 0) = some (T.set i (hd2 u v)) := by
  obtain ⟨a, b, rfl, ha, hb⟩ := isHalf_cut hu
  obtain ⟨x, y, rfl, hx, hy⟩ := isHalf_cut hv
  unfold Co at ha hb hx hy
  have l2 : (([x, y] : List Int).length : Int) = 2 := rfl
  have d02 : decide ((0 : Int) < 2) = true := rfl
  have d12 : decide ((1 : Int) < 2) = true := rfl
  have d22 : decide ((2 : Int) < 2) = false := rfl
  have hiT : i < T.length := by omega
  have hiT' : ∀ z, i < (T.set i z).length := fun z => by rw [List.length_set]; omega
  have s0 := sq_bounds (gap_nonneg a x) (show gap a x ≤ 200 by unfold gap; omega)
  have s1 := sq_bounds (gap_nonneg b y) (show gap b y ≤ 200 by unfold gap; omega)
  have eh : hd2 [a, b] [x, y] = gap a x * gap a x + gap b y * gap b y := rfl
  rw [sq_gap] at s0 s1
  rw [eh, sq_gap, sq_gap]
  have w0 : w64 (x - a) = x - a := w64_id (by omega) (by omega)
  have w1 : w64 (y - b) = y - b := w64_id (by omega) (by omega)
  generalize hp : (x - a) * (x - a) = p at *
  generalize hq : (y - b) * (y - b) = q at *
  have w2 : w64 p = p := w64_id (by omega) (by omega)
  have w3 : w64 q = q := w64_id (by omega) (by omega)
  have w4 : w64 (0 + p) = p := by rw [w64_id (by omega) (by omega)]; omega
  have w5 : w64 (p + q) = p + q := w64_id (by omega) (by omega)
  rw [loopM_eq]
  simp only [l2, d02, gi0, cond_true, Option.bind_some, gidx_nat hiT, h0, w0, hp, w2, w4, i01, selim, Int.toNat_natCast]
  rw [loopM_eq]
  simp only [d12, gi1, cond_true, Option.bind_some, gidx_nat (hiT' _), List.getElem_set_self, w1, hq, w3, w5, i12, selim, Int.toNat_natCast, List.set_set]
  rw [loopM_eq]
  simp only [d22, cond_false, Option.bind_some, selim]
def tabU (l : List (List Int)) (v : List Int) (i : Nat) : List Int := [if 0 < i then hD l v 0 else 0, if 1 < i then hD l v 1 else 0, if 2 < i then hD l v 2 else 0, if 3 < i then hD l v 3 else 0]
theorem tabU_set {l : List (List Int)} {v : List Int} {i : Nat} (hi : i < 4) : (tabU l v i).set i (hD l v i) = tabU l v (i + 1) := by
  rcases (show i = 0 ∨ i = 1 ∨ i = 2 ∨ i = 3 by omega) with rfl | rfl | rfl | rfl <;> simp [tabU]
theorem tabU_zero {l : List (List Int)} {v : List Int} {i : Nat} (hi : i < (tabU l v i).length) : (tabU l v i)[i] = 0 := by
  have hi' : i < 4 := hi
  rcases (show i = 0 ∨ i = 1 ∨ i = 2 ∨ i = 3 by omega) with rfl | rfl | rfl | rfl <;> simp [tabU]
def tab (l : List (List Int)) (v : List Int) : List Int := [hD l v 0, hD l v 1, hD l v 2, hD l v 3]
theorem table_ok {l : List (List Int)} {v : List Int} (hl : okH l = true) (hv : isHalf v = true) : M.impl_tableOf l v = some (tab l v) := by
  unfold M.impl_tableOf
  obtain ⟨c4, hvec⟩ := okH_iff.1 hl
  have hloop := loop_run (R := List Int) (r := tab l v) (f := fun (s6 : (List Int) × (Int)) => (bif decide (s6.2 < (l.length : Int)) then
  (gidx l s6.2).bind fun x10 =>
  Option.bind (loopM (fun (s21 : (List Int) × (Int)) => (bif decide (s21.2 < (v.length : Int)) then
  (gidx v s21.2).bind fun x25 =>
  (gidx s21.1 s6.2).bind fun x31 =>
  (gidx x10 s21.2).bind fun x35 =>
  (gidx x10 s21.2).bind fun x41 =>
  (gidx s21.1 s6.2).bind fun x49 =>
  some (.inl ((s21.1.set s6.2.toNat (w64 (x31 + (w64 ((w64 (x25 - x35)) * (w64 (x25 - x41))))))), w64 (s21.2 + 1)))
 else
  some (.inr s21.1))) (s6.1, 0)) fun o20 =>
  some (.inl (o20, w64 (s6.2 + 1)))
 else
  some (.inr s6.1))) 4 (fun i => (tabU l v i, (i : Int))) (by
    intro i hi
    have hi' : i < l.length := by omega
    have e1 : decide ((i : Int) < (l.length : Int)) = true := decide_eq_true (by omega)
    simp only [e1, cond_true, gidx_nat hi', Option.bind_some]
    rw [tab_inner (T := tabU l v i) rfl hi (tabU_zero (by show i < 4; exact hi)) (hvec _ (List.getElem_mem hi')) hv]
    simp only [Option.bind_some, w64_succ (i := i) (by omega)]
    rw [← hD_at hi', tabU_set hi]) (by
    have e1 : decide (((4 : Nat) : Int) < (l.length : Int)) = false := decide_eq_false (by omega)
    simp only [e1, cond_false]; rfl)
  have e0 : ((0 : Nat) : Int) = 0 := rfl
  simp only [e0] at hloop
  have e2 : (List.replicate 4 (0 : Int)) = tabU l v 0 := rfl
  rw [e2, hloop]; rfl
theorem tables_ok {b : Book} {v : List Int} (h : okB b = true) (hv : isVec v = true) : M.impl_tablesOf (b.1, b.2) v = some (tab b.1 (v.take 2), tab b.2 (v.drop 2)) := by
  unfold M.impl_tablesOf
  obtain ⟨hb1, hb2⟩ := okB_iff.1 h
  obtain ⟨hh1, hh2⟩ := isVec_halves hv
  have hl := (isVec_iff.1 hv).1
  have g1 : gslice v 0 2 = some (v.take 2) := by rw [gslice_ok (by omega) (by omega) (by omega)]; rfl
  have g2 : gslice v 2 (v.length : Int) = some (v.drop 2) := by
    rw [gslice_ok (by omega) (by omega) (by omega), Int.toNat_natCast, List.take_length]; rfl
  simp only [g1, g2, Option.bind_some, table_ok hb1 hh1, table_ok hb2 hh2]
theorem min_four (a b c d : Int) : M.slices_Min_int_int [a, b, c, d] = some (min (min (min a b) c) d) := by
  unfold M.slices_Min_int_int
  have l4' : (([a, b, c, d] : List Int).length : Int) = 4 := rfl
  have e1 : decide ((4 : Int) < 1) = false := rfl
  have i23 : w64 ((2 : Int) + 1) = 3 := w64_id (by omega) (by omega)
  have i34 : w64 ((3 : Int) + 1) = 4 := w64_id (by omega) (by omega)
  have g2 : gidx ([a, b, c, d] : List Int) 2 = some c := gidx_nat (i := 2) (by simp)
  have g3 : gidx ([a, b, c, d] : List Int) 3 = some d := gidx_nat (i := 3) (by simp)
  simp only [l4', e1, cond_false, gi0, Option.bind_some]
  rw [loopM_eq]
  simp only [show decide ((1 : Int) < 4) = true from rfl, cond_true, gi1, Option.bind_some, i12, selim]
  rw [loopM_eq]
  simp only [show decide ((2 : Int) < 4) = true from rfl, cond_true, g2, Option.bind_some, i23, selim]
  rw [loopM_eq]
  simp only [show decide ((3 : Int) < 4) = true from rfl, cond_true, g3, Option.bind_some, i34, selim]
  rw [loopM_eq]
  simp only [show decide ((4 : Int) < 4) = false from rfl, cond_false, Option.bind_some, selim]
theorem index_ok {l : List Int} {x : Int} (hl : l.length < 1000000) : M.slices_Index_int_int l x = some (match l.findIdx? (fun y => x == y) with | some i => (i : Int) | none => -1) := by
  unfold M.slices_Index_int_int
  rw [loop_first (xs := l) (fun y => x == y) (fun i => (i : Int))]
  · cases l.findIdx? (fun y => x == y) <;> rfl
  · intro i hi
    have e5 : decide ((i : Int) < (l.length : Int)) = true := decide_eq_true (by omega)
    simp only [e5, cond_true, gidx_nat hi, Option.bind_some, w64_succ (i := i) (by omega)]
    cases x == l[i] <;> rfl
  · simp
theorem leastN_four (D : Nat → Int) : IsLeast D 4 (leastN D 4) := leastN_is D 4 (by omega)
theorem near4_ok (D : Nat → Int) : M.impl_sideTable_nearest [D 0, D 1, D 2, D 3] = some (leastN D 4 : Int) := by
  unfold M.impl_sideTable_nearest
  simp only [min_four, Option.bind_some]
  rw [index_ok (by simp)]
  obtain ⟨h1, h2, h3⟩ := leastN_four D
  have a0 := h2 0 (by omega)
  have a1 := h2 1 (by omega)
  have a2 := h2 2 (by omega)
  have a3 := h2 3 (by omega)
  have hk := h3 0
  have hk1 := h3 1
  have hk2 := h3 2
  generalize leastN D 4 = k at *
  have hm : min (min (min (D 0) (D 1)) (D 2)) (D 3) = D k := by
    rcases (show k = 0 ∨ k = 1 ∨ k = 2 ∨ k = 3 by omega) with rfl | rfl | rfl | rfl <;> omega
  rw [hm]
  have : List.findIdx? (fun y => D k == y) [D 0, D 1, D 2, D 3] = some k := by
    rcases (show k = 0 ∨ k = 1 ∨ k = 2 ∨ k = 3 by omega) with rfl | rfl | rfl | rfl
    · simp [List.findIdx?_cons]
    · have e0 : (D 1 == D 0) = false := by simp; have := hk (by omega); omega
      simp [List.findIdx?_cons, e0]
    · have e0 : (D 2 == D 0) = false := by simp; have := hk (by omega); omega
      have e1 : (D 2 == D 1) = false := by simp; have := hk1 (by omega); omega
      simp [List.findIdx?_cons, e0, e1]
    · have e0 : (D 3 == D 0) = false := by simp; have := hk (by omega); omega
      have e1 : (D 3 == D 1) = false := by simp; have := hk1 (by omega); omega
      have e2 : (D 3 == D 2) = false := by simp; have := hk2 (by omega); omega
      simp [List.findIdx?_cons, e0, e1, e2]
  rw [this]; rfl
/-- The code of a vector that may be invalid. -/
def encV (b : Book) (v : List Int) : Int := if okB b = true ∧ isVec v = true then (encF b v : Int) else -1
theorem implEnc_ok {b : Book} {v : List Int} (s : SmallB b) (hv : v.length < 2000000) : M.impl_EncodeVector (b.1, b.2) v = some (encV b v) := by
  unfold M.impl_EncodeVector encV
  simp only [implBook_ok s, impl_valid v hv, Option.bind_some]
  cases hb : okB b with
  | false => simp
  | true =>
    cases hvv : isVec v with
    | false => simp
    | true =>
      obtain ⟨hb1, hb2⟩ := okB_iff.1 hb
      have n1 : M.impl_sideTable_nearest (tab b.1 (v.take 2)) = some (clo b.1 (v.take 2) : Int) := by
        have := near4_ok (hD b.1 (v.take 2)); unfold clo; rw [(okH_iff.1 hb1).1]; exact this
      have n2 : M.impl_sideTable_nearest (tab b.2 (v.drop 2)) = some (clo b.2 (v.drop 2) : Int) := by
        have := near4_ok (hD b.2 (v.drop 2)); unfold clo; rw [(okH_iff.1 hb2).1]; exact this
      have h1 := clo_lt (v := v.take 2) hb1
      have h2 := clo_lt (v := v.drop 2) hb2
      simp only [Bool.not_true, cond_false, Option.bind_some, tables_ok hb hvv, n1, n2, and_self, if_true]
      rw [w64_id (n := 4 * (clo b.1 (v.take 2) : Int)) (by omega) (by omega), w64_id (by omega) (by omega)]
      unfold encF; push_cast; congr 1; omega
theorem specEncV_ok {b : Book} {v : List Int} (s : SmallB b) (hv : v.length < 2000000) : M.spec_EncodeVector (b.1, b.2) v = some (encV b v) := by
  unfold M.spec_EncodeVector encV
  simp only [specBook_ok s, spec_isVec v hv, Option.bind_some]
  cases hb : okB b with
  | false => simp
  | true =>
    cases hvv : isVec v with
    | false => simp
    | true => simp [specEnc_ok hb hvv]

/-! ## Vectors of codes -/
/-! ## Distances of codes -/
end Go.Vs

namespace Go.Vs

theorem encV_of {b : Book} {v : List Int} (h : okB b = true) (hv : isVec v = true) : encV b v = (encF b v : Int) := by unfold encV; rw [if_pos ⟨h, hv⟩]
theorem encV_neg {b : Book} {v : List Int} (h : ¬ encV b v < 0) : okB b = true ∧ isVec v = true ∧ encV b v = (encF b v : Int) := by
  unfold encV at h ⊢
  split at h
  · rename_i hq; exact ⟨hq.1, hq.2, by rw [if_pos hq]⟩
  · omega
theorem div4 {m : Nat} (hm : m < 16) : w64 ((m : Int).tdiv 4) = ((m / 4 : Nat) : Int) := by
  have : (m : Int).tdiv 4 = ((m / 4 : Nat) : Int) := rfl
  rw [this]; exact w64_id (by omega) (by omega)
theorem mod4 {m : Nat} : (m : Int).tmod 4 = ((m % 4 : Nat) : Int) := rfl
theorem law_EncodeVectorHalves (code : List UInt8) : M.laws_FnEncodeVectorHalves code = some true := by
  unfold M.laws_FnEncodeVectorHalves
  by_cases hc : 1048576 < (code.length : Int)
  · simp [hc]
  obtain ⟨b, v, h, n, nv⟩ := drawEncode_ok code
  have s := n.small
  have la : v.length < 2000000 := by have := nv.1; omega
  simp only [hc, decide_false, cond_false, h, Option.bind_some, implEnc_ok s la, specEncV_ok s la, bne_self_eq_false]
  by_cases h0 : encV b v < 0
  · simp only [h0, decide_true, cond_true, beq_self_eq_true]
  obtain ⟨ho, hv, e⟩ := encV_neg h0
  obtain ⟨x0, x1, x2, x3, rfl, c0, c1, c2, c3⟩ := isVec_cut hv
  have z : Co 0 := by unfold Co; omega
  have hm : gmake 2 (0 : Int) = some [0, 0] := rfl
  have g1 : gslice [x0, x1, x2, x3] 0 2 = some [x0, x1] := rfl
  have g2 : gslice [x0, x1, x2, x3] 2 (([x0, x1, x2, x3] : List Int).length : Int) = some [x2, x3] := rfl
  have p1 : gapp ([] : List Int) [x0, x1] = some [x0, x1] := by rw [gapp_ok (by simp)]; rfl
  have p2 : gapp [x0, x1] ([0, 0] : List Int) = some [x0, x1, 0, 0] := by rw [gapp_ok (by simp)]; rfl
  have p3 : gapp ([] : List Int) [0, 0] = some [0, 0] := by rw [gapp_ok (by simp)]; rfl
  have p4 : gapp ([0, 0] : List Int) [x2, x3] = some [0, 0, x2, x3] := by rw [gapp_ok (by simp)]; rfl
  have v1 := isVec_mk c0 c1 z z
  have v2 := isVec_mk z z c2 c3
  obtain ⟨hb1, hb2⟩ := okB_iff.1 ho
  have k0 := encF_lt (v := [x0, x1, x2, x3]) ho
  have k1 := encF_lt (v := [x0, x1, 0, 0]) ho
  have k2 := encF_lt (v := [0, 0, x2, x3]) ho
  have w0 := clo_lt (v := [x2, x3]) hb2
  have w1 := clo_lt (v := [(0 : Int), 0]) hb2
  have q0 : encF b [x0, x1, x2, x3] = clo b.1 [x0, x1] * 4 + clo b.2 [x2, x3] := rfl
  have q1 : encF b [x0, x1, 0, 0] = clo b.1 [x0, x1] * 4 + clo b.2 [0, 0] := rfl
  have q2 : encF b [0, 0, x2, x3] = clo b.1 [0, 0] * 4 + clo b.2 [x2, x3] := rfl
  have d1 : encF b [x0, x1, 0, 0] / 4 = encF b [x0, x1, x2, x3] / 4 := by omega
  have d2 : encF b [0, 0, x2, x3] % 4 = encF b [x0, x1, x2, x3] % 4 := by omega
  have d0 : decide ((encF b [x0, x1, x2, x3] : Int) < 0) = false := decide_eq_false (by omega)
  simp only [d0, cond_false, hm, g1, g2, p1, p2, p3, p4, Option.bind_some, implEnc_ok s (show ([x0, x1, 0, 0] : List Int).length < 2000000 by simp), implEnc_ok s (show ([0, 0, x2, x3] : List Int).length < 2000000 by simp), encV_of ho v1, encV_of ho v2, encV_of ho hv, div4 k0, div4 k1, mod4, d1, d2, beq_self_eq_true, cond_true]
end Go.Vs
