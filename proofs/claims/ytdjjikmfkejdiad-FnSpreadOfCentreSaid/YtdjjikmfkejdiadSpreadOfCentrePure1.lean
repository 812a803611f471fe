/- Plain facts of what the functions compute. -/
import Derived.Test.YtdjjikmfkejdiadSpreadOfCentreEng1
import Derived.Test.YtdjjikmfkejdiadSpreadOfCentreLib1
set_option linter.unusedVariables false
set_option linter.unusedSimpArgs false
namespace Go.Vs

theorem loop_run {S R : Type} {f : S → Option (S ⊕ R)} {r : R} (k : Nat) (st : Nat → S) (hs : ∀ i, i < k → f (st i) = some (.inl (st (i + 1)))) (he : f (st k) = some (.inr r)) : loopM f (st 0) = some r := by
  induction k generalizing st with
  | zero => rw [loopM_eq, he]; rfl
  | succ k ih =>
    rw [loopM_eq, hs 0 (by omega)]
    exact ih (fun i => st (i + 1)) (fun i hi => hs (i + 1) (by omega)) he

theorem w64_nat {n : Nat} (h : n < 9223372036854775808) : w64 (n : Int) = n := w64_id (by omega) (by omega)
theorem gidx_nat {α : Type} {xs : List α} {i : Nat} (h : i < xs.length) : gidx xs (i : Int) = some xs[i] := by
  unfold gidx
  rw [if_pos (by omega)]
  simp [h]
theorem gidx_lt' {α : Type} {xs : List α} {a : Int} (h0 : 0 ≤ a) (h : a < xs.length) : ∃ e, gidx xs a = some e ∧ e ∈ xs := by
  obtain ⟨n, rfl⟩ := Int.eq_ofNat_of_zero_le h0
  have hn : n < xs.length := by omega
  exact ⟨xs[n], gidx_nat hn, List.getElem_mem _⟩
theorem gapp_ok {α : Type} {xs ys : List α} (h : xs.length + ys.length ≤ 2147483648) : gapp xs ys = some (xs ++ ys) := by unfold gapp; rw [if_pos h]
theorem grem_ok {a b : Int} (h : b ≠ 0) : grem a b = some (a.tmod b) := by unfold grem; rw [if_neg h]
theorem gquo_ok {a b : Int} (h : b ≠ 0) : gquo a b = some (w64 (a.tdiv b)) := by unfold gquo; rw [if_neg h]
theorem gslice_ok {α : Type} {xs : List α} {l h : Int} (h0 : 0 ≤ l) (h1 : l ≤ h) (h2 : h ≤ xs.length) : gslice xs l h = some ((xs.take h.toNat).drop l.toNat) := by
  unfold gslice; rw [if_pos ⟨h0, h1, h2⟩]
theorem garr_ok {α : Type} {k : Nat} {xs : List α} (h : k ≤ xs.length) : garr k xs = some (xs.take k) := by unfold garr; rw [if_pos h]

theorem tmod_range {a b : Int} (ha : 0 ≤ a) (hb : 0 < b) : 0 ≤ a.tmod b ∧ a.tmod b < b := by
  rw [Int.tmod_eq_emod_of_nonneg ha]
  exact ⟨Int.emod_nonneg _ (by omega), Int.emod_lt_of_pos _ hb⟩
theorem tdiv_range {a b : Int} (ha : 0 ≤ a) (hb : 0 < b) : 0 ≤ a.tdiv b ∧ a.tdiv b ≤ a := by
  rw [Int.tdiv_eq_ediv_of_nonneg ha]
  exact ⟨Int.ediv_nonneg ha (by omega), Int.ediv_le_self _ ha⟩
theorem gxor_range {a b : Int} (ha : 0 ≤ a) (ha' : a < 4611686018427387904) (hb : 0 ≤ b) (hb' : b < 4611686018427387904) : 0 ≤ gxor a b ∧ gxor a b < 4611686018427387904 := by
  obtain ⟨m, rfl⟩ := Int.eq_ofNat_of_zero_le ha
  obtain ⟨n, rfl⟩ := Int.eq_ofNat_of_zero_le hb
  have h1 : (BitVec.ofInt 64 (m : Int) ^^^ BitVec.ofInt 64 (n : Int)).toNat = m ^^^ n := by
    rw [BitVec.toNat_xor]
    have e : ∀ k : Nat, k < 4611686018427387904 → (BitVec.ofInt 64 (k : Int)).toNat = k := by
      intro k hk
      simp only [BitVec.toNat_ofInt]
      omega
    rw [e m (by omega), e n (by omega)]
  have h2 : m ^^^ n < 2 ^ 62 := Nat.xor_lt_two_pow (by omega) (by omega)
  have h3 : (2 : Nat) ^ 62 = 4611686018427387904 := by decide
  unfold gxor
  rw [h1]
  have : w64 ((m ^^^ n : Nat) : Int) = (m ^^^ n : Nat) := w64_nat (by omega)
  show 0 ≤ w64 _ ∧ w64 _ < _
  rw [this]
  omega
/-- A loop that looks at each element, and leaves at the first that fails. -/
theorem loop_all {α R : Type} {xs : List α} {P : α → Bool} {r : R} {f : Int → Option (Int ⊕ (Unit ⊕ R))} (hs : ∀ i (h : i < xs.length), f (i : Int) = some (if P xs[i] then .inl ((i : Int) + 1) else .inr (.inr r))) (he : f (xs.length : Int) = some (.inr (.inl ()))) :
    loopM f 0 = some (if xs.all P then .inl () else .inr r) := by
  have key : ∀ m k : Nat, k + m = xs.length → loopM f (k : Int) = some (if (xs.drop k).all P then .inl () else .inr r) := by
    intro m
    induction m with
    | zero =>
      intro k hk
      have : k = xs.length := by omega
      subst this
      rw [loopM_eq, he]; simp [selim]
    | succ m ih =>
      intro k hk
      have hlt : k < xs.length := by omega
      rw [loopM_eq, hs k hlt, List.drop_eq_getElem_cons hlt]
      by_cases hp : P xs[k] = true
      · rw [if_pos hp]
        have := ih (k + 1) (by omega)
        simp only [Int.natCast_add, Int.cast_ofNat_Int] at this
        simp only [List.all_cons, hp, Bool.true_and, selim, this, Option.bind_some]
      · rw [if_neg hp]
        simp only [List.all_cons, Bool.not_eq_true] at hp ⊢
        simp only [hp, Bool.false_and, selim, Option.bind_some]; rfl
  have := key xs.length 0 (by omega)
  simpa using this
end Go.Vs

namespace Go.Vs

/-- A reader that has been asked at most k times. -/
def Good (k : Nat) (r : List UInt8 × Int) : Prop := r.1.length ≤ 2000 ∧ 0 ≤ r.2 ∧ r.2 ≤ k
theorem Good.mono {k m : Nat} {r : List UInt8 × Int} (h : Good k r) (hm : k ≤ m) : Good m r := ⟨h.1, h.2.1, by have := h.2.2; omega⟩

theorem pick_ok {k : Nat} (hk : k ≤ 1000000) {r : List UInt8 × Int} (hr : Good k r) (n : Int) :
    ∃ x r', M.spec_reader_pick r n = some (x, r') ∧ Good (k + 1) r' ∧ 0 ≤ x ∧ (1 ≤ n → x < n) ∧ (n < 1 → x = 0) := by
  obtain ⟨b, p⟩ := r
  obtain ⟨h1, h2, h3⟩ := hr
  simp only at h1 h2 h3
  have e1 : w64 (p + 1) = p + 1 := w64_id (by omega) (by omega)
  have e2 : w64 (p + 1 - 1) = p := by rw [w64_id (by omega) (by omega)]; omega
  have hgood : Good (k + 1) (b, p + 1) := ⟨h1, by simp only; omega, by simp only; omega⟩
  unfold M.spec_reader_pick
  simp only [e1, e2]
  by_cases hn : n < 1
  · refine ⟨0, (b, p + 1), ?_, hgood, by omega, fun h => by omega, fun _ => rfl⟩
    simp [hn]
  · by_cases hb : b.length = 0
    · refine ⟨0, (b, p + 1), ?_, hgood, by omega, fun h => by omega, fun _ => rfl⟩
      simp [hn, hb]
    · have hbl : (b.length : Int) ≠ 0 := by omega
      have hbb : ((b.length : Int) == 0) = false := by simpa using hb
      simp only [hn, decide_false, cond_false, hbb, Option.bind_some]
      by_cases hp : p < (b.length : Int)
      · obtain ⟨e, he, _⟩ := gidx_lt' (xs := b) h2 hp
        have hE : w64 (e.toNat : Int) = e.toNat := w64_nat (by have := e.toNat_lt; omega)
        have hr := tmod_range (a := (e.toNat : Int)) (b := n) (by omega) (by omega)
        refine ⟨_, (b, p + 1), ?_, hgood, hr.1, fun _ => hr.2, fun h => h.elim⟩
        simp only [hp, decide_true, cond_true, he, Option.bind_some, hE, grem_ok (show n ≠ 0 by omega)]
      · simp only [hp, decide_false, cond_false]
        have hbp : 0 < (b.length : Int) := by omega
        have r1 := tmod_range (a := p) h2 hbp
        have e7 : w64 (w64 (p * 7) + 3) = p * 7 + 3 := by rw [w64_id (n := p * 7) (by omega) (by omega), w64_id (by omega) (by omega)]
        have r2 := tmod_range (a := p * 7 + 3) (b := (b.length : Int)) (by omega) hbp
        obtain ⟨x, hx, _⟩ := gidx_lt' (xs := b) r1.1 r1.2
        obtain ⟨y, hy, _⟩ := gidx_lt' (xs := b) r2.1 r2.2
        have hX : (x.toNat : Int) < 256 := by have := x.toNat_lt; omega
        have hY : (y.toNat : Int) < 256 := by have := y.toNat_lt; omega
        have r3 := tdiv_range (a := p) (b := (b.length : Int)) h2 hbp
        simp only [grem_ok hbl, Option.bind_some, hx, e7, hy, gquo_ok hbl]
        generalize hq : w64 (p.tdiv (b.length : Int)) = q
        have hq' : 0 ≤ q ∧ q ≤ 1000000 := by rw [← hq, w64_id (by omega) (by omega)]; omega
        have eX : w64 (x.toNat : Int) = x.toNat := w64_id (by omega) (by omega)
        have eY : w64 (y.toNat : Int) = y.toNat := w64_id (by omega) (by omega)
        simp only [eX, eY]
        have eX' : w64 ((x.toNat : Int) * 131) = x.toNat * 131 := w64_id (by omega) (by omega)
        have eY' : w64 ((y.toNat : Int) * 1117) = y.toNat * 1117 := w64_id (by omega) (by omega)
        have eP : w64 (p * 29) = p * 29 := w64_id (by omega) (by omega)
        have eQ : w64 (q * 53) = q * 53 := w64_id (by omega) (by omega)
        simp only [eX', eY', eP, eQ]
        have eA : w64 ((x.toNat : Int) * 131 + y.toNat * 1117) = x.toNat * 131 + y.toNat * 1117 := w64_id (by omega) (by omega)
        simp only [eA]
        have eB : w64 ((x.toNat : Int) * 131 + y.toNat * 1117 + p * 29) = x.toNat * 131 + y.toNat * 1117 + p * 29 := w64_id (by omega) (by omega)
        simp only [eB]
        have eC : w64 ((x.toNat : Int) * 131 + y.toNat * 1117 + p * 29 + q * 53) = x.toNat * 131 + y.toNat * 1117 + p * 29 + q * 53 := w64_id (by omega) (by omega)
        simp only [eC]
        generalize hZ : (x.toNat : Int) * 131 + y.toNat * 1117 + p * 29 + q * 53 = Z
        have hZ' : 0 ≤ Z ∧ Z ≤ 1000000000 := by omega
        have r4 := tdiv_range (a := Z) (b := 64) hZ'.1 (by omega)
        have eD : w64 (Z.tdiv 64) = Z.tdiv 64 := w64_id (by omega) (by omega)
        rw [eD]
        have r5 := gxor_range (a := Z) (b := Z.tdiv 64) (by omega) (by omega) (by omega) (by omega)
        have r6 := tmod_range (a := gxor Z (Z.tdiv 64)) (b := n) r5.1 (by omega)
        refine ⟨_, (b, p + 1), ?_, hgood, r6.1, fun _ => r6.2, fun h => h.elim⟩
        simp only [grem_ok (show n ≠ 0 by omega), Option.bind_some]

theorem one_ok {k : Nat} (hk : k ≤ 1000000) {r : List UInt8 × Int} (hr : Good k r) {list : List Int} (hl : list ≠ []) :
    ∃ x r', M.spec_reader_one r list = some (x, r') ∧ Good (k + 1) r' ∧ x ∈ list := by
  obtain ⟨x, r', h1, h2, h3, h4, _⟩ := pick_ok hk hr (list.length : Int)
  have hlen : 1 ≤ (list.length : Int) := by
    have : list.length ≠ 0 := by simpa using hl
    omega
  obtain ⟨e, he, hm⟩ := gidx_lt' h3 (h4 hlen)
  refine ⟨e, r', ?_, h2, hm⟩
  unfold M.spec_reader_one
  simp only [h1, Option.bind_some, he]

theorem coord_ok {k : Nat} (hk : k ≤ 900000) {r : List UInt8 × Int} (hr : Good k r) :
    ∃ x r', M.spec_someCoord r = some (x, r') ∧ Good (k + 3) r' ∧ -100 ≤ x ∧ x ≤ 100 := by
  obtain ⟨x1, r1, h1, g1, a1, b1, _⟩ := pick_ok (by omega) hr 201
  obtain ⟨x2, r2, h2, g2, a2, b2, _⟩ := pick_ok (by omega) g1 21
  have b1 := b1 (by omega)
  have b2 := b2 (by omega)
  have e1 : w64 (x1 - 100) = x1 - 100 := w64_id (by omega) (by omega)
  have e2 : w64 (x2 - 10) = x2 - 10 := w64_id (by omega) (by omega)
  obtain ⟨x3, r3, h3, g3, m3⟩ := one_ok (by omega) g2 (list := [0, 1, -1, 5, -7, 10, 3, 100, -100, x1 - 100, x2 - 10]) (by simp)
  refine ⟨x3, r3, ?_, g3, ?_⟩
  · unfold M.spec_someCoord
    simp only [h1, Option.bind_some, h2, e1, e2, h3]
  · simp only [List.mem_cons, List.not_mem_nil, or_false] at m3
    omega

/-- A valid vector. -/
def isVec (v : List Int) : Bool := decide (v.length = 4) && v.all fun x => decide (-100 ≤ x) && decide (x ≤ 100)
theorem isVec_iff {v : List Int} : isVec v = true ↔ v.length = 4 ∧ ∀ x ∈ v, -100 ≤ x ∧ x ≤ 100 := by
  unfold isVec; simp
theorem isVec_four {v : List Int} (h : isVec v = true) : ∃ a b c d, v = [a, b, c, d] ∧ (-100 ≤ a ∧ a ≤ 100) ∧ (-100 ≤ b ∧ b ≤ 100) ∧ (-100 ≤ c ∧ c ≤ 100) ∧ (-100 ≤ d ∧ d ≤ 100) := by
  obtain ⟨h1, h2⟩ := isVec_iff.1 h
  match v, h1 with
  | [a, b, c, d], _ => exact ⟨a, b, c, d, rfl, h2 a (by simp), h2 b (by simp), h2 c (by simp), h2 d (by simp)⟩

theorem vector_ok {k : Nat} (hk : k ≤ 800000) {r : List UInt8 × Int} (hr : Good k r) :
    ∃ v r', M.spec_someVector r = some (v, r') ∧ Good (k + 12) r' ∧ isVec v = true := by
  obtain ⟨x1, r1, h1, g1, a1, b1⟩ := coord_ok (by omega) hr
  obtain ⟨x2, r2, h2, g2, a2, b2⟩ := coord_ok (by omega) g1
  obtain ⟨x3, r3, h3, g3, a3, b3⟩ := coord_ok (by omega) g2
  obtain ⟨x4, r4, h4, g4, a4, b4⟩ := coord_ok (by omega) g3
  refine ⟨[x1, x2, x3, x4], r4, ?_, g4, isVec_iff.2 ⟨rfl, by simp only [List.mem_cons, List.not_mem_nil, or_false]; rintro x (rfl | rfl | rfl | rfl) <;> omega⟩⟩
  have e : ∀ n : Nat, n < 10 → w64 ((n : Int) + 1) = (n : Int) + 1 := fun n hn => w64_id (by omega) (by omega)
  have e0 : w64 ((0 : Int) + 1) = 1 := e 0 (by omega)
  have e1 : w64 ((1 : Int) + 1) = 2 := e 1 (by omega)
  have e2 : w64 ((2 : Int) + 1) = 3 := e 2 (by omega)
  have e3 : w64 ((3 : Int) + 1) = 4 := e 3 (by omega)
  have ga : ∀ (xs : List Int) (x : Int), xs.length < 10 → gapp xs [x] = some (xs ++ [x]) := fun xs x hx => gapp_ok (by simp; omega)
  unfold M.spec_someVector
  rw [loopM_eq]
  simp only [show decide ((0 : Int) < 4) = true from rfl, cond_true, h1, Option.bind_some, ga [] x1 (by simp), selim, e0, List.nil_append]
  rw [loopM_eq]
  simp only [show decide ((1 : Int) < 4) = true from rfl, cond_true, h2, Option.bind_some, ga [x1] x2 (by simp), selim, e1, List.cons_append, List.nil_append]
  rw [loopM_eq]
  simp only [show decide ((2 : Int) < 4) = true from rfl, cond_true, h3, Option.bind_some, ga [x1, x2] x3 (by simp), selim, e2, List.cons_append, List.nil_append]
  rw [loopM_eq]
  simp only [show decide ((3 : Int) < 4) = true from rfl, cond_true, h4, Option.bind_some, ga [x1, x2, x3] x4 (by simp), selim, e3, List.cons_append, List.nil_append]
  rw [loopM_eq]
  simp only [show decide ((4 : Int) < 4) = false from rfl, cond_false, Option.bind_some, selim]
end Go.Vs
namespace Go.Vs
/-- A vector that may be drawn. -/
def Near (v : List Int) : Prop := v.length ≤ 5 ∧ ∀ x ∈ v, -101 ≤ x ∧ x ≤ 101
theorem near_of {v : List Int} (h : isVec v = true) : Near v := by
  obtain ⟨h1, h2⟩ := isVec_iff.1 h
  exact ⟨by omega, fun x hx => by have := h2 x hx; omega⟩
theorem copy_ok {v : List Int} (h : v.length ≤ 1000000) : M.spec_copyInts v = some v := by
  unfold M.spec_copyInts
  rw [gapp_ok (by simp; omega)]; rfl
theorem spoil_ok {k : Nat} (hk : k ≤ 700000) {r : List UInt8 × Int} (hr : Good k r) {v : List Int} (hv : isVec v = true) :
    ∃ u r', M.spec_reader_spoil r v 101 = some (u, r') ∧ Good (k + 3) r' ∧ Near u := by
  obtain ⟨hl, hb⟩ := isVec_iff.1 hv
  obtain ⟨x1, r1, h1, g1, a1, b1, _⟩ := pick_ok (by omega) hr 20
  unfold M.spec_reader_spoil
  simp only [copy_ok (v := v) (by omega), Option.bind_some, h1]
  by_cases c0 : x1 = 0
  · refine ⟨v ++ [101], r1, ?_, g1.mono (by omega), ?_⟩
    · simp [c0, gapp_ok (xs := v) (ys := [101]) (by simp; omega)]
    · refine ⟨by simp; omega, fun x hx => ?_⟩
      rcases List.mem_append.1 hx with h | h
      · have := hb x h; omega
      · simp at h; omega
  · have e0 : (x1 == 0) = false := by simpa using c0
    simp only [e0, cond_false]
    have hpos : decide (0 < (v.length : Int)) = true := by simp; omega
    have hp' : 0 < v.length := by omega
    by_cases c1 : x1 = 1
    · refine ⟨v.drop 1, r1, ?_, g1.mono (by omega), by simp; omega, fun x hx => ?_⟩
      · have : gslice v 1 (v.length : Int) = some (v.drop 1) := by
          rw [gslice_ok (by omega) (by omega) (by omega)]; simp
        simp [c1, hp', this]
      · have := hb x (List.mem_of_mem_drop hx); omega
    · have e1 : (x1 == 1) = false := by simpa using c1
      simp only [e1, cond_false]
      by_cases c2 : x1 = 2
      · obtain ⟨i, r2, h2, g2, a2, b2, _⟩ := pick_ok (by omega) g1 (v.length : Int)
        obtain ⟨y, r3, h3, g3, m3⟩ := one_ok (by omega) g2 (list := [-1, 101, 0, 1]) (by simp)
        have b2 := b2 (by omega)
        obtain ⟨z, hz, _⟩ := gidx_lt' (xs := v) a2 b2
        refine ⟨v.set i.toNat y, r3, ?_, g3, by simp; omega, fun x hx => ?_⟩
        · simp [c2, hp', h2, h3, hz]
        · rcases List.mem_or_eq_of_mem_set hx with h | h
          · have := hb x h; omega
          · subst h
            simp only [List.mem_cons, List.not_mem_nil, or_false] at m3
            omega
      · have e2 : (x1 == 2) = false := by simpa using c2
        exact ⟨v, r1, by simp [e2], g1.mono (by omega), near_of hv⟩
theorem any_ok {k : Nat} (hk : k ≤ 600000) {r : List UInt8 × Int} (hr : Good k r) :
    ∃ v r', M.spec_anyVector r = some (v, r') ∧ Good (k + 16) r' ∧ Near v := by
  obtain ⟨x1, r1, h1, g1, a1, b1, _⟩ := pick_ok (by omega) hr 10
  obtain ⟨v, r2, h2, g2, hv⟩ := vector_ok (by omega) g1
  unfold M.spec_anyVector
  simp only [h1, Option.bind_some]
  by_cases c0 : x1 = 0
  · obtain ⟨u, r3, h3, g3, hu⟩ := spoil_ok (by omega) g2 hv
    exact ⟨u, r3, by simp [c0, h2, h3], g3, hu⟩
  · have e0 : (x1 == 0) = false := by simpa using c0
    exact ⟨v, r2, by simp [e0, h2], g2.mono (by omega), near_of hv⟩
theorem newReader_ok (code : List UInt8) : ∃ r, M.spec_newReader code = some r ∧ Good 0 r := by
  unfold M.spec_newReader
  by_cases h : 2000 < (code.length : Int)
  · refine ⟨(code.take 2000, 0), ?_, by simp; omega, by simp, by simp⟩
    have : gslice code 0 2000 = some (code.take 2000) := by
      rw [gslice_ok (by omega) (by omega) (by omega)]; simp
    simp [h, this]
  · exact ⟨(code, 0), by simp [h], by simp only; omega, by simp, by simp⟩

theorem implCoords_ok (v : List Int) (hb : v.length < 2000000) : M.impl_validCoords v = some (v.all fun x => decide (-100 ≤ x) && decide (x ≤ 100)) := by
  unfold M.impl_validCoords
  rw [loop_all (xs := v) (P := fun x => decide (-100 ≤ x) && decide (x ≤ 100)) (r := false)]
  · by_cases ha : (v.all fun x => decide (-100 ≤ x) && decide (x ≤ 100)) = true
    · simp only [ha, if_true, Option.bind_some, selim]
    · simp only [Bool.not_eq_true] at ha
      simp only [ha]; simp [selim]
  · intro i h
    have e1 : decide ((i : Int) < (v.length : Int)) = true := by simpa using h
    have e2 : w64 ((i : Int) + 1) = (i : Int) + 1 := w64_id (by omega) (by omega)
    simp only [e1, cond_true, gidx_nat h, Option.bind_some, e2]
    by_cases c1 : v[i] < -100
    · have c2 : ¬ (-100 ≤ v[i]) := by omega
      simp [c1, c2]
    · by_cases c3 : 100 < v[i]
      · have c4 : ¬ (v[i] ≤ 100) := by omega
        simp [c1, c3, c4]
      · simp [c1, c3, show -100 ≤ v[i] by omega, show v[i] ≤ 100 by omega]
  · simp
theorem impl_valid (v : List Int) (hb : v.length < 2000000) : M.impl_ValidVector v = some (isVec v) := by
  unfold M.impl_ValidVector
  simp only [implCoords_ok v hb, Option.bind_some]
  unfold isVec
  by_cases hl : v.length = 4
  · have e : ((v.length : Int) == 4) = true := by simp; omega
    rw [e, cond_true, decide_eq_true hl, Bool.true_and]
  · have e : ((v.length : Int) == 4) = false := by simp; omega
    rw [e, cond_false, decide_eq_false hl, Bool.false_and]
theorem spec_inR (n l h : Int) : M.spec_inRange n l h = some (decide (l ≤ n) && decide (n ≤ h)) := by
  unfold M.spec_inRange
  by_cases h1 : l ≤ n <;> simp [h1]
theorem spec_all (v : List Int) (l h : Int) (hb : v.length < 2000000) : M.spec_allIn v l h = some (v.all fun x => decide (l ≤ x) && decide (x ≤ h)) := by
  unfold M.spec_allIn
  rw [loop_all (xs := v) (P := fun x => decide (l ≤ x) && decide (x ≤ h)) (r := false)]
  · by_cases ha : (v.all fun x => decide (l ≤ x) && decide (x ≤ h)) = true
    · simp only [ha, if_true, Option.bind_some, selim]
    · simp only [Bool.not_eq_true] at ha
      simp [ha, selim]
  · intro i hi
    have e1 : decide ((i : Int) < (v.length : Int)) = true := by simpa using hi
    have e2 : w64 ((i : Int) + 1) = (i : Int) + 1 := w64_id (by omega) (by omega)
    simp only [e1, cond_true, gidx_nat hi, Option.bind_some, e2, spec_inR]
    cases (decide (l ≤ v[i]) && decide (v[i] ≤ h)) <;> rfl
  · simp
theorem spec_isVec (v : List Int) (hb : v.length < 2000000) : M.spec_isVector v = some (isVec v) := by
  unfold M.spec_isVector
  by_cases hl : v.length = 4
  · have e : ((v.length : Int) == 4) = true := by simp; omega
    simp [e, spec_all v _ _ hb, isVec, hl]
  · have e : ((v.length : Int) == 4) = false := by simp; omega
    simp [e, isVec, hl]
end Go.Vs

namespace Go.Vs

end Go.Vs

namespace Go.Vs

theorem loop4 {S R : Type} {f : S → Option (S ⊕ R)} {s0 s1 s2 s3 s4 : S} {r : R} (h0 : f s0 = some (.inl s1)) (h1 : f s1 = some (.inl s2)) (h2 : f s2 = some (.inl s3)) (h3 : f s3 = some (.inl s4)) (h4 : f s4 = some (.inr r)) : loopM f s0 = some r := by
  rw [loopM_eq, h0, Option.bind_some, selim, loopM_eq, h1, Option.bind_some, selim, loopM_eq, h2, Option.bind_some, selim, loopM_eq, h3, Option.bind_some, selim, loopM_eq, h4]; rfl
theorem gi0 {α : Type} {a : α} {l : List α} : gidx (a :: l) 0 = some a := gidx_nat (i := 0) (by simp)
theorem gi1 {α : Type} {a b : α} {l : List α} : gidx (a :: b :: l) 1 = some b := gidx_nat (i := 1) (by simp)
theorem gi2 {α : Type} {a b c : α} {l : List α} : gidx (a :: b :: c :: l) 2 = some c := gidx_nat (i := 2) (by simp)
theorem gi3 {α : Type} {a b c d : α} {l : List α} : gidx (a :: b :: c :: d :: l) 3 = some d := gidx_nat (i := 3) (by simp)
theorem i01 : w64 ((0 : Int) + 1) = 1 := w64_id (by omega) (by omega)
theorem i12 : w64 ((1 : Int) + 1) = 2 := w64_id (by omega) (by omega)
theorem i23 : w64 ((2 : Int) + 1) = 3 := w64_id (by omega) (by omega)
theorem i34 : w64 ((3 : Int) + 1) = 4 := w64_id (by omega) (by omega)
theorem d04 : decide ((0 : Int) < 4) = true := rfl
theorem d14 : decide ((1 : Int) < 4) = true := rfl
theorem d24 : decide ((2 : Int) < 4) = true := rfl
theorem d34 : decide ((3 : Int) < 4) = true := rfl
theorem d44 : decide ((4 : Int) < 4) = false := rfl
theorem l4 {α : Type} {a b c d : α} : (([a, b, c, d] : List α).length : Int) = 4 := rfl

/-- How far two coordinates lie apart. -/
def gap (x y : Int) : Int := max (x - y) (y - x)
theorem gap_nonneg (x y : Int) : 0 ≤ gap x y := by unfold gap; omega
theorem gap_zero (x y : Int) : gap x y = 0 ↔ x = y := by unfold gap; omega
/-- A coordinate. -/
def Co (x : Int) : Prop := -100 ≤ x ∧ x ≤ 100
theorem gap_le {x y : Int} (hx : Co x) (hy : Co y) : gap x y ≤ 200 := by unfold gap; unfold Co at hx hy; omega
theorem sq_bounds {g : Int} (h0 : 0 ≤ g) (h : g ≤ 200) : 0 ≤ g * g ∧ g ≤ g * g ∧ g * g ≤ 40000 := by
  refine ⟨Int.mul_nonneg h0 h0, ?_, ?_⟩
  · by_cases h1 : g = 0
    · subst h1; simp
    · have := Int.mul_le_mul_of_nonneg_right (show (1 : Int) ≤ g by omega) h0; omega
  · have := Int.mul_le_mul h h h0 (by omega); omega
/-- The distance of a kind, from the gaps. -/
def dk (k g0 g1 g2 g3 : Int) : Int :=
  if k = 1 then g0 + g1 + g2 + g3 else if k = 2 then max (max (max (max 0 g0) g1) g2) g3 else if k = 3 then g0 * g0 + g1 * g1 + g2 * g2 + g3 * g3 else if k = 4 then min g0 1 + min g1 1 + min g2 1 + min g3 1 else -1

theorem distanceOf_ok (k : Int) {g0 g1 g2 g3 : Int} (h0 : 0 ≤ g0) (h0' : g0 ≤ 200) (h1 : 0 ≤ g1) (h1' : g1 ≤ 200) (h2 : 0 ≤ g2) (h2' : g2 ≤ 200) (h3 : 0 ≤ g3) (h3' : g3 ≤ 200) :
    M.impl_distanceOf k [g0, g1, g2, g3] = some (dk k g0 g1 g2 g3) := by
  unfold M.impl_distanceOf
  have s0 := sq_bounds h0 h0'
  have s1 := sq_bounds h1 h1'
  have s2 := sq_bounds h2 h2'
  have s3 := sq_bounds h3 h3'
  by_cases k1 : k = 1
  · subst k1
    have e0 : w64 (0 + g0) = g0 := by rw [w64_id (by omega) (by omega)]; omega
    have e1 : w64 (g0 + g1) = g0 + g1 := w64_id (by omega) (by omega)
    have e2 : w64 (g0 + g1 + g2) = g0 + g1 + g2 := w64_id (by omega) (by omega)
    have e3 : w64 (g0 + g1 + g2 + g3) = g0 + g1 + g2 + g3 := w64_id (by omega) (by omega)
    rw [loop4 (s1 := (g0, 1)) (s2 := (g0 + g1, 2)) (s3 := (g0 + g1 + g2, 3)) (s4 := (g0 + g1 + g2 + g3, 4)) (r := .inl (g0 + g1 + g2 + g3))]
    · rfl
    · simp only [d04, gi0, i01, e0, selim, cond_true, Option.bind_some]; rfl
    · simp only [d14, gi1, i12, e1, selim, cond_true, Option.bind_some]; rfl
    · simp only [d24, gi2, i23, e2, selim, cond_true, Option.bind_some]; rfl
    · simp only [d34, gi3, i34, e3, selim, cond_true, Option.bind_some]; rfl
    · simp [d44]
  by_cases k2 : k = 2
  · subst k2
    rw [loop4 (s1 := (max 0 g0, 1)) (s2 := (max (max 0 g0) g1, 2)) (s3 := (max (max (max 0 g0) g1) g2, 3)) (s4 := (max (max (max (max 0 g0) g1) g2) g3, 4)) (r := .inl (max (max (max (max 0 g0) g1) g2) g3))]
    · rfl
    · simp only [d04, gi0, i01, selim, cond_true, Option.bind_some]; rfl
    · simp only [d14, gi1, i12, selim, cond_true, Option.bind_some]; rfl
    · simp only [d24, gi2, i23, selim, cond_true, Option.bind_some]; rfl
    · simp only [d34, gi3, i34, selim, cond_true, Option.bind_some]; rfl
    · simp [d44]
  by_cases k3 : k = 3
  · subst k3
    have q0 : w64 (g0 * g0) = g0 * g0 := w64_id (by omega) (by omega)
    have q1 : w64 (g1 * g1) = g1 * g1 := w64_id (by omega) (by omega)
    have q2 : w64 (g2 * g2) = g2 * g2 := w64_id (by omega) (by omega)
    have q3 : w64 (g3 * g3) = g3 * g3 := w64_id (by omega) (by omega)
    have e0 : w64 (0 + g0 * g0) = g0 * g0 := by rw [w64_id (by omega) (by omega)]; omega
    have e1 : w64 (g0 * g0 + g1 * g1) = g0 * g0 + g1 * g1 := w64_id (by omega) (by omega)
    have e2 : w64 (g0 * g0 + g1 * g1 + g2 * g2) = g0 * g0 + g1 * g1 + g2 * g2 := w64_id (by omega) (by omega)
    have e3 : w64 (g0 * g0 + g1 * g1 + g2 * g2 + g3 * g3) = g0 * g0 + g1 * g1 + g2 * g2 + g3 * g3 := w64_id (by omega) (by omega)
    rw [loop4 (s1 := (g0 * g0, 1)) (s2 := (g0 * g0 + g1 * g1, 2)) (s3 := (g0 * g0 + g1 * g1 + g2 * g2, 3)) (s4 := (g0 * g0 + g1 * g1 + g2 * g2 + g3 * g3, 4)) (r := .inl (g0 * g0 + g1 * g1 + g2 * g2 + g3 * g3))]
    · rfl
    · simp only [d04, gi0, i01, e0, q0, selim, cond_true, Option.bind_some]; rfl
    · simp only [d14, gi1, i12, e1, q1, selim, cond_true, Option.bind_some]; rfl
    · simp only [d24, gi2, i23, e2, q2, selim, cond_true, Option.bind_some]; rfl
    · simp only [d34, gi3, i34, e3, q3, selim, cond_true, Option.bind_some]; rfl
    · simp [d44]
  by_cases k4 : k = 4
  · subst k4
    have e0 : w64 (0 + min g0 1) = min g0 1 := by rw [w64_id (by omega) (by omega)]; omega
    have e1 : w64 (min g0 1 + min g1 1) = min g0 1 + min g1 1 := w64_id (by omega) (by omega)
    have e2 : w64 (min g0 1 + min g1 1 + min g2 1) = min g0 1 + min g1 1 + min g2 1 := w64_id (by omega) (by omega)
    have e3 : w64 (min g0 1 + min g1 1 + min g2 1 + min g3 1) = min g0 1 + min g1 1 + min g2 1 + min g3 1 := w64_id (by omega) (by omega)
    rw [loop4 (s1 := (min g0 1, 1)) (s2 := (min g0 1 + min g1 1, 2)) (s3 := (min g0 1 + min g1 1 + min g2 1, 3)) (s4 := (min g0 1 + min g1 1 + min g2 1 + min g3 1, 4)) (r := .inl (min g0 1 + min g1 1 + min g2 1 + min g3 1))]
    · rfl
    · simp only [d04, gi0, i01, e0, selim, cond_true, Option.bind_some]; rfl
    · simp only [d14, gi1, i12, e1, selim, cond_true, Option.bind_some]; rfl
    · simp only [d24, gi2, i23, e2, selim, cond_true, Option.bind_some]; rfl
    · simp only [d34, gi3, i34, e3, selim, cond_true, Option.bind_some]; rfl
    · simp [d44]
  have b1 : (k == 1) = false := by simpa using k1
  have b2 : (k == 2) = false := by simpa using k2
  have b3 : (k == 3) = false := by simpa using k3
  have b4 : (k == 4) = false := by simpa using k4
  rw [loopM_eq]
  simp [d04, gi0, b1, b2, b3, b4, selim, dk, k1, k2, k3, k4]

theorem gapsOf_ok {a b c d x y z w : Int} (ha : Co a) (hb : Co b) (hc : Co c) (hd : Co d) (hx : Co x) (hy : Co y) (hz : Co z) (hw : Co w) :
    M.impl_gapsOf [a, b, c, d] [x, y, z, w] = some [gap a x, gap b y, gap c z, gap d w] := by
  have e : ∀ p q, Co p → Co q → max (w64 (p - q)) (w64 (q - p)) = gap p q := by
    intro p q hp hq
    unfold Co at hp hq
    rw [w64_id (n := p - q) (by omega) (by omega), w64_id (n := q - p) (by omega) (by omega)]; rfl
  unfold M.impl_gapsOf
  rw [loop4 (s1 := ([gap a x, 0, 0, 0], 1)) (s2 := ([gap a x, gap b y, 0, 0], 2)) (s3 := ([gap a x, gap b y, gap c z, 0], 3)) (s4 := ([gap a x, gap b y, gap c z, gap d w], 4)) (r := [gap a x, gap b y, gap c z, gap d w])]
  · rfl
  · simp only [show List.replicate 4 (0 : Int) = [0, 0, 0, 0] from rfl, d04, gi0, i01, cond_true, Option.bind_some, e a x ha hx]; rfl
  · simp only [d14, gi1, i12, cond_true, Option.bind_some, e b y hb hy]; rfl
  · simp only [d24, gi2, i23, cond_true, Option.bind_some, e c z hc hz]; rfl
  · simp only [d34, gi3, i34, cond_true, Option.bind_some, e d w hd hw]; rfl
  · simp only [d44, cond_false]

theorem specDist_ok {k : Int} (hk : 1 ≤ k ∧ k ≤ 4) {a b c d x y z w : Int} (ha : Co a) (hb : Co b) (hc : Co c) (hd : Co d) (hx : Co x) (hy : Co y) (hz : Co z) (hw : Co w) :
    M.spec_dist k [a, b, c, d] [x, y, z, w] = some (dk k (gap a x) (gap b y) (gap c z) (gap d w)) := by
  have e : ∀ p q, Co p → Co q → M.spec_size (w64 (p - q)) = some (gap p q) := by
    intro p q hp hq
    unfold Co at hp hq
    unfold M.spec_size
    rw [w64_id (n := p - q) (by omega) (by omega), w64_id (n := 0 - (p - q)) (by omega) (by omega)]
    unfold gap
    congr 1; omega
  have t : ∀ g : Int, 0 ≤ g → M.spec_toInt (decide (0 < g)) = some (min g 1) := by
    intro g hg
    unfold M.spec_toInt
    by_cases h : 0 < g
    · simp [h]; omega
    · simp [h]; omega
  have ea := e a x ha hx
  have eb := e b y hb hy
  have ec := e c z hc hz
  have ed := e d w hd hw
  have h0 := gap_nonneg a x
  have h1 := gap_nonneg b y
  have h2 := gap_nonneg c z
  have h3 := gap_nonneg d w
  have h0' := gap_le ha hx
  have h1' := gap_le hb hy
  have h2' := gap_le hc hz
  have h3' := gap_le hd hw
  generalize gap a x = g0 at *
  generalize gap b y = g1 at *
  generalize gap c z = g2 at *
  generalize gap d w = g3 at *
  have s0 := sq_bounds h0 h0'
  have s1 := sq_bounds h1 h1'
  have s2 := sq_bounds h2 h2'
  have s3 := sq_bounds h3 h3'
  unfold M.spec_dist
  by_cases k1 : k = 1
  · subst k1
    have e0 : w64 (0 + g0) = g0 := by rw [w64_id (by omega) (by omega)]; omega
    have e1 : w64 (g0 + g1) = g0 + g1 := w64_id (by omega) (by omega)
    have e2 : w64 (g0 + g1 + g2) = g0 + g1 + g2 := w64_id (by omega) (by omega)
    have e3 : w64 (g0 + g1 + g2 + g3) = g0 + g1 + g2 + g3 := w64_id (by omega) (by omega)
    rw [loop4 (s1 := (g0, 1)) (s2 := (g0 + g1, 2)) (s3 := (g0 + g1 + g2, 3)) (s4 := (g0 + g1 + g2 + g3, 4)) (r := g0 + g1 + g2 + g3)]
    · rfl
    · simp only [l4, d04, gi0, i01, e0, ea, cond_true, Option.bind_some]; rfl
    · simp only [l4, d14, gi1, i12, e1, eb, cond_true, Option.bind_some]; rfl
    · simp only [l4, d24, gi2, i23, e2, ec, cond_true, Option.bind_some]; rfl
    · simp only [l4, d34, gi3, i34, e3, ed, cond_true, Option.bind_some]; rfl
    · simp [l4, d44]
  by_cases k2 : k = 2
  · subst k2
    rw [loop4 (s1 := (max 0 g0, 1)) (s2 := (max (max 0 g0) g1, 2)) (s3 := (max (max (max 0 g0) g1) g2, 3)) (s4 := (max (max (max (max 0 g0) g1) g2) g3, 4)) (r := max (max (max (max 0 g0) g1) g2) g3)]
    · rfl
    · simp only [l4, d04, gi0, i01, ea, cond_true, Option.bind_some]; rfl
    · simp only [l4, d14, gi1, i12, eb, cond_true, Option.bind_some]; rfl
    · simp only [l4, d24, gi2, i23, ec, cond_true, Option.bind_some]; rfl
    · simp only [l4, d34, gi3, i34, ed, cond_true, Option.bind_some]; rfl
    · simp [l4, d44]
  by_cases k3 : k = 3
  · subst k3
    have q0 : w64 (g0 * g0) = g0 * g0 := w64_id (by omega) (by omega)
    have q1 : w64 (g1 * g1) = g1 * g1 := w64_id (by omega) (by omega)
    have q2 : w64 (g2 * g2) = g2 * g2 := w64_id (by omega) (by omega)
    have q3 : w64 (g3 * g3) = g3 * g3 := w64_id (by omega) (by omega)
    have e0 : w64 (0 + g0 * g0) = g0 * g0 := by rw [w64_id (by omega) (by omega)]; omega
    have e1 : w64 (g0 * g0 + g1 * g1) = g0 * g0 + g1 * g1 := w64_id (by omega) (by omega)
    have e2 : w64 (g0 * g0 + g1 * g1 + g2 * g2) = g0 * g0 + g1 * g1 + g2 * g2 := w64_id (by omega) (by omega)
    have e3 : w64 (g0 * g0 + g1 * g1 + g2 * g2 + g3 * g3) = g0 * g0 + g1 * g1 + g2 * g2 + g3 * g3 := w64_id (by omega) (by omega)
    rw [loop4 (s1 := (g0 * g0, 1)) (s2 := (g0 * g0 + g1 * g1, 2)) (s3 := (g0 * g0 + g1 * g1 + g2 * g2, 3)) (s4 := (g0 * g0 + g1 * g1 + g2 * g2 + g3 * g3, 4)) (r := g0 * g0 + g1 * g1 + g2 * g2 + g3 * g3)]
    · rfl
    · simp only [l4, d04, gi0, i01, e0, q0, ea, cond_true, Option.bind_some]; rfl
    · simp only [l4, d14, gi1, i12, e1, q1, eb, cond_true, Option.bind_some]; rfl
    · simp only [l4, d24, gi2, i23, e2, q2, ec, cond_true, Option.bind_some]; rfl
    · simp only [l4, d34, gi3, i34, e3, q3, ed, cond_true, Option.bind_some]; rfl
    · simp [l4, d44]
  · have k4 : k = 4 := by omega
    subst k4
    have e0 : w64 (0 + min g0 1) = min g0 1 := by rw [w64_id (by omega) (by omega)]; omega
    have e1 : w64 (min g0 1 + min g1 1) = min g0 1 + min g1 1 := w64_id (by omega) (by omega)
    have e2 : w64 (min g0 1 + min g1 1 + min g2 1) = min g0 1 + min g1 1 + min g2 1 := w64_id (by omega) (by omega)
    have e3 : w64 (min g0 1 + min g1 1 + min g2 1 + min g3 1) = min g0 1 + min g1 1 + min g2 1 + min g3 1 := w64_id (by omega) (by omega)
    rw [loop4 (s1 := (min g0 1, 1)) (s2 := (min g0 1 + min g1 1, 2)) (s3 := (min g0 1 + min g1 1 + min g2 1, 3)) (s4 := (min g0 1 + min g1 1 + min g2 1 + min g3 1, 4)) (r := min g0 1 + min g1 1 + min g2 1 + min g3 1)]
    · rfl
    · simp only [l4, d04, gi0, i01, e0, ea, t g0 h0, cond_true, Option.bind_some]; simp only [show ((4 : Int) == 1) = false from rfl, show ((4 : Int) == 2) = false from rfl, show ((4 : Int) == 3) = false from rfl, cond_false, Option.bind_some, t g0 h0, e0]
    · simp only [l4, d14, gi1, i12, e1, eb, t g1 h1, cond_true, Option.bind_some]; simp only [show ((4 : Int) == 1) = false from rfl, show ((4 : Int) == 2) = false from rfl, show ((4 : Int) == 3) = false from rfl, cond_false, Option.bind_some, t g1 h1, e1]
    · simp only [l4, d24, gi2, i23, e2, ec, t g2 h2, cond_true, Option.bind_some]; simp only [show ((4 : Int) == 1) = false from rfl, show ((4 : Int) == 2) = false from rfl, show ((4 : Int) == 3) = false from rfl, cond_false, Option.bind_some, t g2 h2, e2]
    · simp only [l4, d34, gi3, i34, e3, ed, t g3 h3, cond_true, Option.bind_some]; simp only [show ((4 : Int) == 1) = false from rfl, show ((4 : Int) == 2) = false from rfl, show ((4 : Int) == 3) = false from rfl, cond_false, Option.bind_some, t g3 h3, e3]
    · simp [l4, d44]
end Go.Vs

namespace Go.Vs

/-- What Distance answers. -/
def dist (k : Int) (a b : List Int) : Int :=
  if isVec a = true ∧ isVec b = true then dk k (gap (a.getD 0 0) (b.getD 0 0)) (gap (a.getD 1 0) (b.getD 1 0)) (gap (a.getD 2 0) (b.getD 2 0)) (gap (a.getD 3 0) (b.getD 3 0)) else -1
theorem dist_vec {k : Int} {a b c d x y z w : Int} (ha : isVec [a, b, c, d] = true) (hb : isVec [x, y, z, w] = true) : dist k [a, b, c, d] [x, y, z, w] = dk k (gap a x) (gap b y) (gap c z) (gap d w) := by
  unfold dist; rw [if_pos ⟨ha, hb⟩]; rfl
theorem isVec_cut {v : List Int} (h : isVec v = true) : ∃ a b c d, v = [a, b, c, d] ∧ Co a ∧ Co b ∧ Co c ∧ Co d := isVec_four h

theorem implDistance_ok (k : Int) {a b : List Int} (ha : a.length < 2000000) (hb : b.length < 2000000) : M.impl_Distance k a b = some (dist k a b) := by
  unfold M.impl_Distance
  simp only [impl_valid a ha, Option.bind_some]
  by_cases va : isVec a = true
  · simp only [va, Bool.not_true, cond_false, impl_valid b hb, Option.bind_some]
    by_cases vb : isVec b = true
    · simp only [vb, Bool.not_true, cond_false]
      obtain ⟨x0, x1, x2, x3, rfl, c0, c1, c2, c3⟩ := isVec_cut va
      obtain ⟨y0, y1, y2, y3, rfl, e0, e1, e2, e3⟩ := isVec_cut vb
      rw [dist_vec va vb, garr_ok (by simp), garr_ok (by simp)]
      simp only [Option.bind_some, List.take_succ_cons, List.take_zero, gapsOf_ok c0 c1 c2 c3 e0 e1 e2 e3]
      rw [distanceOf_ok k (gap_nonneg _ _) (gap_le c0 e0) (gap_nonneg _ _) (gap_le c1 e1) (gap_nonneg _ _) (gap_le c2 e2) (gap_nonneg _ _) (gap_le c3 e3)]
      rfl
    · have vb' : isVec b = false := by simpa using vb
      simp [vb', dist]
  · have va' : isVec a = false := by simpa using va
    simp [va', dist]
/-- Gaps of two vectors. -/
structure Gaps (g0 g1 g2 g3 : Int) : Prop where
  n0 : 0 ≤ g0
  n1 : 0 ≤ g1
  n2 : 0 ≤ g2
  n3 : 0 ≤ g3
  m0 : g0 ≤ 200
  m1 : g1 ≤ 200
  m2 : g2 ≤ 200
  m3 : g3 ≤ 200
theorem gaps_of {a b c d x y z w : Int} (c0 : Co a) (c1 : Co b) (c2 : Co c) (c3 : Co d) (e0 : Co x) (e1 : Co y) (e2 : Co z) (e3 : Co w) : Gaps (gap a x) (gap b y) (gap c z) (gap d w) :=
  ⟨gap_nonneg _ _, gap_nonneg _ _, gap_nonneg _ _, gap_nonneg _ _, gap_le c0 e0, gap_le c1 e1, gap_le c2 e2, gap_le c3 e3⟩
theorem dk_range {k g0 g1 g2 g3 : Int} (h : Gaps g0 g1 g2 g3) : -1 ≤ dk k g0 g1 g2 g3 ∧ dk k g0 g1 g2 g3 < 1000000 := by
  obtain ⟨n0, n1, n2, n3, m0, m1, m2, m3⟩ := h
  have s0 := sq_bounds n0 m0
  have s1 := sq_bounds n1 m1
  have s2 := sq_bounds n2 m2
  have s3 := sq_bounds n3 m3
  unfold dk
  split
  · omega
  split
  · omega
  split
  · generalize g0 * g0 = q0 at *
    generalize g1 * g1 = q1 at *
    generalize g2 * g2 = q2 at *
    generalize g3 * g3 = q3 at *
    omega
  split <;> omega
end Go.Vs

namespace Go.Vs

end Go.Vs

namespace Go.Vs

end Go.Vs

namespace Go.Vs

end Go.Vs

namespace Go.Vs

end Go.Vs

namespace Go.Vs

end Go.Vs

namespace Go.Vs

end Go.Vs

namespace Go.Vs

abbrev Item := Int × (List Int) × Int
/-- A valid item. -/
def isItem (x : Item) : Bool := (decide (1 ≤ x.1) && decide (x.1 ≤ 99)) && (isVec x.2.1 && (decide (0 ≤ x.2.2) && decide (x.2.2 ≤ 15)))
/-- Valid items, with ascending keys above p. -/
def okFrom : Int → List Item → Bool
  | _, [] => true
  | p, x :: l => (isItem x && decide (p < x.1)) && okFrom x.1 l
def okStore (l : List Item) : Bool := decide (l.length ≤ 16) && okFrom 0 l

theorem implItem_ok {x : Item} (h : x.2.1.length < 2000000) : M.impl_validItem (x.1, x.2.1, x.2.2) = some (isItem x) := by
  unfold M.impl_validItem M.impl_validKey M.impl_validTags isItem
  simp only [impl_valid x.2.1 h, Option.bind_some]
  by_cases h1 : 1 ≤ x.1
  · by_cases h2 : x.1 ≤ 99
    · by_cases h3 : isVec x.2.1 = true
      · by_cases h4 : 0 ≤ x.2.2
        · simp [h1, h2, h3, h4]
        · simp [h1, h2, h3, h4]
      · simp only [Bool.not_eq_true] at h3
        simp [h1, h2, h3]
    · simp [h1, h2]
  · simp [h1]
theorem specItem_ok {x : Item} (h : x.2.1.length < 2000000) : M.spec_validItem (x.1, x.2.1, x.2.2) = some (isItem x) := by
  unfold M.spec_validItem isItem
  simp only [spec_inR, spec_isVec x.2.1 h, Option.bind_some]
  cases (decide (1 ≤ x.1) && decide (x.1 ≤ 99)) <;> cases isVec x.2.1 <;> simp

theorem implStore_ok {l : List Item} (hb : ∀ x ∈ l, x.2.1.length < 2000000) : M.impl_ValidStore l = some (okStore l) := by
  unfold M.impl_ValidStore okStore
  by_cases hl : 16 < (l.length : Int)
  · have : ¬ l.length ≤ 16 := by omega
    simp [hl, this]
  have hl' : l.length ≤ 16 := by omega
  simp only [hl, decide_false, cond_false, hl', decide_true, Bool.true_and]
  have key : ∀ m k : Nat, ∀ p : Int, k + m = l.length → loopM (fun (s3 : (Int) × (Int)) => (bif decide (s3.2 < (l.length : Int)) then
  (gidx l s3.2).bind fun x8 =>
  Option.bind ((M.impl_validItem (x8.1, x8.2.1, x8.2.2)).bind fun r30 =>
  (bif !r30 then
  some true
 else
  some (decide (x8.1 ≤ s3.1)))) fun o29 =>
  (bif o29 then
  some (.inr (.inr false))
 else
  some (.inl (x8.1, w64 (s3.2 + 1))))
 else
  some (.inr (.inl ())))) (p, (k : Int)) = some (if okFrom p (l.drop k) then (.inl () : Unit ⊕ Bool) else .inr false) := by
    intro m
    induction m with
    | zero =>
      intro k p hk
      have : k = l.length := by omega
      subst this
      rw [loopM_eq]; simp [selim, okFrom]
    | succ m ih =>
      intro k p hk
      have hlt : k < l.length := by omega
      rw [loopM_eq, List.drop_eq_getElem_cons hlt]
      have e1 : decide ((k : Int) < (l.length : Int)) = true := by simpa using hlt
      have e2 : w64 ((k : Int) + 1) = ((k + 1 : Nat) : Int) := w64_id (by omega) (by omega)
      simp only [e1, cond_true, gidx_nat hlt, Option.bind_some, implItem_ok (hb _ (List.getElem_mem hlt)), e2, okFrom]
      by_cases h1 : isItem l[k] = true
      · by_cases h2 : p < l[k].1
        · have h2' : ¬ l[k].1 ≤ p := by omega
          simp only [h1, h2, h2', Bool.not_true, cond_false, Option.bind_some, decide_false, decide_true, Bool.and_self, Bool.true_and, selim]
          exact ih (k + 1) l[k].1 (by omega)
        · have h2' : l[k].1 ≤ p := by omega
          simp [h1, h2, h2', selim]
      · simp only [Bool.not_eq_true] at h1
        simp [h1, selim]
  have := key l.length 0 0 (by omega)
  simp only [Int.cast_ofNat_Int, List.drop_zero] at this
  rw [this]
  cases okFrom 0 l <;> rfl

/-- The key before a place. -/
def keyBefore (l : List Item) : Nat → Int
  | 0 => 0
  | k + 1 => (l.getD k (0, [], 0)).1
theorem specStore_ok {l : List Item} (hb : ∀ x ∈ l, x.2.1.length < 2000000) (hL : l.length < 2000000) : M.spec_validStore l = some (okStore l) := by
  unfold M.spec_validStore okStore
  have key : ∀ m k : Nat, k + m = l.length → loopM (fun (s2 : (Int)) => (bif decide (s2 < (l.length : Int)) then
  Option.bind ((gidx l s2).bind fun x8 =>
  (M.spec_validItem (x8.1, x8.2.1, x8.2.2)).bind fun r19 =>
  (bif !r19 then
  some true
 else
  (bif decide (0 < s2) then
  (gidx l s2).bind fun x24 =>
  (gidx l (w64 (s2 - 1))).bind fun x29 =>
  some (decide (x24.1 ≤ x29.1))
 else
  some false))) fun o7 =>
  (bif o7 then
  some (.inr (.inr false))
 else
  some (.inl (w64 (s2 + 1))))
 else
  some (.inr (.inl ())))) (k : Int) = some (if okFrom (keyBefore l k) (l.drop k) then (.inl () : Unit ⊕ Bool) else .inr false) := by
    intro m
    induction m with
    | zero =>
      intro k hk
      have : k = l.length := by omega
      subst this
      rw [loopM_eq]; simp [selim, okFrom]
    | succ m ih =>
      intro k hk
      have hlt : k < l.length := by omega
      rw [loopM_eq, List.drop_eq_getElem_cons hlt]
      have e1 : decide ((k : Int) < (l.length : Int)) = true := by simpa using hlt
      have e2 : w64 ((k : Int) + 1) = ((k + 1 : Nat) : Int) := w64_id (by omega) (by omega)
      have hnext : keyBefore l (k + 1) = l[k].1 := by simp [keyBefore, List.getD, hlt]
      have ih' := ih (k + 1) (by omega)
      rw [hnext] at ih'
      simp only [e1, cond_true, gidx_nat hlt, Option.bind_some, specItem_ok (hb _ (List.getElem_mem hlt)), e2, okFrom]
      by_cases h1 : isItem l[k] = true
      · simp only [h1, Bool.not_true, cond_false, Bool.true_and]
        match k, hlt with
        | 0, hlt =>
          have hpos : keyBefore l 0 < l[0].1 := by
            have : 1 ≤ l[0].1 := by
              unfold isItem at h1; simp at h1; exact h1.1.1
            show 0 < _; omega
          have e3 : decide ((0 : Int) < ((0 : Nat) : Int)) = false := rfl
          simp only [e3, cond_false, Option.bind_some, hpos, decide_true, Bool.true_and, selim]
          exact ih'
        | j + 1, hlt =>
          have e3 : decide ((0 : Int) < ((j + 1 : Nat) : Int)) = true := by simp
          have e4 : w64 (((j + 1 : Nat) : Int) - 1) = (j : Int) := by rw [w64_id (by omega) (by omega)]; omega
          have hj : j < l.length := by omega
          have hk : keyBefore l (j + 1) = l[j].1 := by simp [keyBefore, List.getD, hj]
          simp only [e3, cond_true, e4, gidx_nat hj, Option.bind_some, hk]
          by_cases h2 : l[j].1 < l[j + 1].1
          · have h2' : ¬ l[j + 1].1 ≤ l[j].1 := by omega
            simp only [h2, h2', decide_false, decide_true, cond_false, Bool.true_and, selim, Option.bind_some]
            exact ih'
          · have h2' : l[j + 1].1 ≤ l[j].1 := by omega
            simp [h2, h2', selim]
      · simp only [Bool.not_eq_true] at h1
        simp [h1, selim]
  have := key l.length 0 (by omega)
  simp only [Int.cast_ofNat_Int, List.drop_zero] at this
  rw [this]
  show _ = some (decide (l.length ≤ 16) && okFrom 0 l)
  have e : keyBefore l 0 = 0 := rfl
  rw [e]
  by_cases h16 : l.length ≤ 16
  · have : decide ((l.length : Int) ≤ 16) = true := by simp; omega
    cases okFrom 0 l <;> simp [selim, this, h16]
  · have : decide ((l.length : Int) ≤ 16) = false := by simp; omega
    cases okFrom 0 l <;> simp [selim, this, h16]
end Go.Vs

namespace Go.Vs

end Go.Vs

namespace Go.Vs

theorem w64_succ {i : Nat} (h : i < 4000000000000000000) : w64 ((i : Int) + 1) = ((i + 1 : Nat) : Int) := w64_id (by omega) (by omega)

section
variable {α S T R U : Type} {xs : List α}
theorem loop_fold (st : S → Int → T) (g : S → α → S) (Inv : Nat → S → Prop) {fin : S → R} {f : T → Option (T ⊕ R)} {s0 : S} (h0 : Inv 0 s0)
    (hs : ∀ s i (h : i < xs.length), Inv i s → f (st s (i : Int)) = some (.inl (st (g s xs[i]) ((i + 1 : Nat) : Int))) ∧ Inv (i + 1) (g s xs[i]))
    (he : ∀ s, Inv xs.length s → f (st s (xs.length : Int)) = some (.inr (fin s))) :
    loopM f (st s0 0) = some (fin (xs.foldl g s0)) ∧ Inv xs.length (xs.foldl g s0) := by
  have key : ∀ m k : Nat, ∀ s, k + m = xs.length → Inv k s → loopM f (st s (k : Int)) = some (fin ((xs.drop k).foldl g s)) ∧ Inv xs.length ((xs.drop k).foldl g s) := by
    intro m
    induction m with
    | zero =>
      intro k s hk hi
      have : k = xs.length := by omega
      subst this
      rw [loopM_eq, he s hi]; simpa [selim] using hi
    | succ m ih =>
      intro k s hk hi
      have hlt : k < xs.length := by omega
      obtain ⟨h1, h2⟩ := hs s k hlt hi
      rw [loopM_eq, h1, List.drop_eq_getElem_cons hlt]
      exact ih (k + 1) _ (by omega) h2
  have := key xs.length 0 s0 (by omega) h0
  simpa using this
/-- A loop in front of something. -/
theorem fold_bind (st : S → Int → T) (g : S → α → S) (Inv : Nat → S → Prop) (fin : S → R) {f : T → Option (T ⊕ R)} {s0 : S} {k : R → Option U} {r : Option U} (h0 : Inv 0 s0)
    (hs : ∀ s i (h : i < xs.length), Inv i s → f (st s (i : Int)) = some (.inl (st (g s xs[i]) ((i + 1 : Nat) : Int))) ∧ Inv (i + 1) (g s xs[i]))
    (he : ∀ s, Inv xs.length s → f (st s (xs.length : Int)) = some (.inr (fin s)))
    (hk : Inv xs.length (xs.foldl g s0) → k (fin (xs.foldl g s0)) = r) : (loopM f (st s0 0)).bind k = r := by
  obtain ⟨h1, h2⟩ := loop_fold st g Inv (fin := fin) h0 hs he
  rw [h1]; exact hk h2
end

theorem foldl_filter {α : Type} (p : α → Bool) (l : List α) : ∀ s : List α, l.foldl (fun s x => if p x = true then s ++ [x] else s) s = s ++ l.filter p := by
  induction l with
  | nil => intro s; simp
  | cons x l ih =>
    intro s
    rw [List.foldl_cons, ih, List.filter_cons]
    by_cases h : p x = true <;> simp [h]
theorem foldl_map {α β : Type} (g : α → β) (l : List α) : ∀ s : List β, l.foldl (fun s x => s ++ [g x]) s = s ++ l.map g := by
  induction l with
  | nil => intro s; simp
  | cons x l ih => intro s; rw [List.foldl_cons, ih]; simp

/-! ## Valid stores as lists that ascend -/
theorem okFrom_iff {l : List Item} : ∀ {p : Int}, okFrom p l = true ↔ (∀ x ∈ l, isItem x = true ∧ p < x.1) ∧ l.Pairwise (fun x y => x.1 < y.1) := by
  induction l with
  | nil => intro p; simp [okFrom]
  | cons x l ih =>
    intro p
    simp only [okFrom, Bool.and_eq_true, decide_eq_true_eq, ih, List.pairwise_cons, List.mem_cons, forall_eq_or_imp]
    constructor
    · rintro ⟨⟨h1, h2⟩, h3, h4⟩
      exact ⟨⟨⟨h1, h2⟩, fun y hy => ⟨(h3 y hy).1, by have := (h3 y hy).2; omega⟩⟩, fun y hy => (h3 y hy).2, h4⟩
    · rintro ⟨⟨⟨h1, h2⟩, h3⟩, h4, h5⟩
      exact ⟨⟨h1, h2⟩, fun y hy => ⟨(h3 y hy).1, h4 y hy⟩, h5⟩
theorem isItem_iff {x : Item} : isItem x = true ↔ (1 ≤ x.1 ∧ x.1 ≤ 99) ∧ isVec x.2.1 = true ∧ 0 ≤ x.2.2 ∧ x.2.2 ≤ 15 := by
  unfold isItem; simp only [Bool.and_eq_true, decide_eq_true_eq]
theorem okStore_iff {l : List Item} : okStore l = true ↔ l.length ≤ 16 ∧ (∀ x ∈ l, isItem x = true) ∧ l.Pairwise (fun x y => x.1 < y.1) := by
  unfold okStore
  simp only [Bool.and_eq_true, decide_eq_true_eq, okFrom_iff]
  constructor
  · rintro ⟨h1, h2, h3⟩; exact ⟨h1, fun x hx => (h2 x hx).1, h3⟩
  · rintro ⟨h1, h2, h3⟩; exact ⟨h1, fun x hx => ⟨h2 x hx, by have := (isItem_iff.1 (h2 x hx)).1.1; omega⟩, h3⟩
theorem isItem_len {x : Item} (h : isItem x = true) : x.2.1.length = 4 := (isVec_iff.1 (isItem_iff.1 h).2.1).1

/-- A list of items that is small enough to be looked at. -/
def SmallS (l : List Item) : Prop := l.length ≤ 1048576 ∧ ∀ x ∈ l, x.2.1.length ≤ 1048576
theorem SmallS.hb {l : List Item} (h : SmallS l) : ∀ x ∈ l, x.2.1.length < 2000000 := fun x hx => by have := h.2 x hx; omega
theorem SmallS.hL {l : List Item} (h : SmallS l) : l.length < 2000000 := by have := h.1; omega
theorem okStore_small {l : List Item} (h : okStore l = true) : SmallS l := by
  obtain ⟨h1, h2, h3⟩ := okStore_iff.1 h
  exact ⟨by omega, fun x hx => by have := isItem_len (h2 x hx); omega⟩
theorem SmallS.impl {l : List Item} (h : SmallS l) : M.impl_ValidStore l = some (okStore l) := implStore_ok h.hb
theorem SmallS.specv {l : List Item} (h : SmallS l) : M.spec_validStore l = some (okStore l) := specStore_ok h.hb h.hL
/-! ## Putting -/
def putS (l : List Item) (x : Item) : List Item := l.filter (fun y => decide (y.1 < x.1)) ++ x :: l.filter (fun y => decide (x.1 < y.1))
theorem copyItem_spec {x : Item} (h : x.2.1.length ≤ 1000000) : M.spec_copyItem (x.1, x.2.1, x.2.2) = some x := by
  unfold M.spec_copyItem; simp only [copy_ok h, Option.bind_some]
theorem specPut_ok {l : List Item} {x : Item} (hl : l.length ≤ 1000) (hx : ∀ y ∈ l, y.2.1.length ≤ 1000000) (hxx : x.2.1.length ≤ 1000000) : M.spec_put l (x.1, x.2.1, x.2.2) = some (putS l x) := by
  unfold M.spec_put
  simp only []
  refine fold_bind (xs := l) (fun s i => (s, i)) (fun s y => if (decide (y.1 < x.1)) = true then s ++ [y] else s) (fun i s => s.length ≤ i) (fun s => s) (by simp) ?_ ?_ ?_
  · intro s i h hs
    have e1 : decide ((i : Int) < (l.length : Int)) = true := by simpa using h
    simp only [e1, cond_true, gidx_nat h, Option.bind_some, w64_succ (i := i) (by omega)]
    by_cases hk : l[i].1 < x.1
    · simp only [hk, decide_true, cond_true, copyItem_spec (hx _ (List.getElem_mem h)), Option.bind_some, if_true]
      rw [gapp_ok (by simp; omega)]
      exact ⟨by first | rfl | trivial, by simp; omega⟩
    · simp only [hk, decide_false, cond_false, Option.bind_some, if_false, Bool.false_eq_true]
      exact ⟨by first | rfl | trivial, by omega⟩
  · intro s _; simp
  · intro hs
    rw [foldl_filter] at hs ⊢
    simp only [List.nil_append] at hs ⊢
    simp only [copyItem_spec hxx, Option.bind_some]
    rw [gapp_ok (by simp; omega)]
    simp only [Option.bind_some]
    refine fold_bind (xs := l) (fun s i => (s, i)) (fun s y => if (decide (x.1 < y.1)) = true then s ++ [y] else s) (fun i s => s.length ≤ 1001 + i) (fun s => s) (by simp; omega) ?_ ?_ ?_
    · intro s i h hs
      have e1 : decide ((i : Int) < (l.length : Int)) = true := by simpa using h
      simp only [e1, cond_true, gidx_nat h, Option.bind_some, w64_succ (i := i) (by omega)]
      by_cases hk : x.1 < l[i].1
      · simp only [hk, decide_true, cond_true, copyItem_spec (hx _ (List.getElem_mem h)), Option.bind_some, if_true]
        rw [gapp_ok (by simp; omega)]
        exact ⟨by first | rfl | trivial, by simp; omega⟩
      · simp only [hk, decide_false, cond_false, Option.bind_some, if_false, Bool.false_eq_true]
        exact ⟨by first | rfl | trivial, by omega⟩
    · intro s _; simp
    · intro _
      rw [foldl_filter]; simp [putS]
theorem putS_len {l : List Item} {x : Item} (h : l.Pairwise (fun x y => x.1 < y.1)) : (putS l x).length ≤ l.length + 1 := by
  unfold putS
  simp only [List.length_append, List.length_cons]
  have : ∀ l : List Item, (l.filter (fun y => decide (y.1 < x.1))).length + (l.filter (fun y => decide (x.1 < y.1))).length ≤ l.length := by
    intro l
    induction l with
    | nil => simp
    | cons y l ih =>
      rw [List.filter_cons, List.filter_cons]
      by_cases h1 : y.1 < x.1
      · have h2 : ¬ x.1 < y.1 := by omega
        simp [h1, h2]; omega
      · by_cases h2 : x.1 < y.1
        · simp [h1, h2]; omega
        · simp [h1, h2]; omega
  have := this l; omega
theorem putS_ok {l : List Item} {x : Item} (h : okStore l = true) (hx : isItem x = true) : (∀ y ∈ putS l x, isItem y = true) ∧ (putS l x).Pairwise (fun x y => x.1 < y.1) := by
  obtain ⟨_, h2, h3⟩ := okStore_iff.1 h
  unfold putS
  refine ⟨?_, ?_⟩
  · intro y hy
    simp only [List.mem_append, List.mem_cons, List.mem_filter] at hy
    rcases hy with hy | rfl | hy
    · exact h2 y hy.1
    · exact hx
    · exact h2 y hy.1
  · rw [List.pairwise_append, List.pairwise_cons]
    refine ⟨h3.sublist List.filter_sublist, ⟨fun y hy => ?_, h3.sublist List.filter_sublist⟩, fun y hy z hz => ?_⟩
    · simpa using (List.mem_filter.1 hy).2
    · have h4 : y.1 < x.1 := by simpa using (List.mem_filter.1 hy).2
      rcases List.mem_cons.1 hz with rfl | hz
      · exact h4
      · have : x.1 < z.1 := by simpa using (List.mem_filter.1 hz).2
        omega
theorem putS_okStore {l : List Item} {x : Item} (h : okStore l = true) (hx : isItem x = true) : okStore (putS l x) = decide ((putS l x).length ≤ 16) := by
  obtain ⟨h1, h2⟩ := putS_ok h hx
  rw [Bool.eq_iff_iff, okStore_iff, decide_eq_true_eq]; exact ⟨fun h => h.1, fun h => ⟨h, h1, h2⟩⟩
def putItem (l : List Item) (x : Item) : List Item × Bool := if okStore l = true ∧ isItem x = true ∧ (putS l x).length ≤ 16 then (putS l x, true) else ([], false)
theorem specPutItem_ok {l : List Item} {x : Item} (h : SmallS l) (hx : x.2.1.length ≤ 1000000) : M.spec_PutItem l (x.1, x.2.1, x.2.2) = some (putItem l x) := by
  unfold M.spec_PutItem putItem
  simp only [h.specv, specItem_ok (x := x) (by omega), Option.bind_some]
  cases h1 : okStore l with
  | false => simp
  | true =>
    cases h2 : isItem x with
    | false => simp
    | true =>
      obtain ⟨hl, hi, hp⟩ := okStore_iff.1 h1
      simp only [Bool.not_true, cond_false, Option.bind_some]
      rw [specPut_ok (by omega) (fun y hy => by have := isItem_len (hi y hy); omega) hx]
      have hs := putS_ok h1 h2
      have hn := putS_len (x := x) hp
      simp only [Option.bind_some, specStore_ok (l := putS l x) (fun y hy => by have := isItem_len (hs.1 y hy); omega) (by omega), putS_okStore h1 h2]
      by_cases h16 : (putS l x).length ≤ 16 <;> simp [h16]

/-! ## Draws -/
theorem item_ok {k : Nat} (hk : k ≤ 700000) {r : List UInt8 × Int} (hr : Good k r) :
    ∃ x r', M.spec_someItem (r.1, r.2) = some (x, (r'.1, r'.2)) ∧ Good (k + 14) r' ∧ isItem x = true ∧ x.1 ≤ 30 := by
  obtain ⟨x1, r1, h1, g1, a1, b1, _⟩ := pick_ok (by omega) hr 30
  obtain ⟨v, r2, h2, g2, hv⟩ := vector_ok (by omega) g1
  obtain ⟨x3, r3, h3, g3, a3, b3, _⟩ := pick_ok (by omega) g2 16
  have b1 := b1 (by omega)
  have b3 := b3 (by omega)
  refine ⟨(1 + x1, v, x3), r3, ?_, g3.mono (by omega), isItem_iff.2 ⟨⟨by simp only; omega, by simp only; omega⟩, hv, by simp only; omega, by simp only; omega⟩, by simp only; omega⟩
  unfold M.spec_someItem
  simp only [h1, h2, h3, Option.bind_some, w64_id (n := 1 + x1) (by omega) (by omega)]

/-- An item that may be drawn. -/
def NearI (x : Item) : Prop := (0 ≤ x.1 ∧ x.1 ≤ 100) ∧ Near x.2.1 ∧ -1 ≤ x.2.2 ∧ x.2.2 ≤ 16
theorem nearI_of {x : Item} (h : isItem x = true) : NearI x := by
  obtain ⟨h1, h2, h3⟩ := isItem_iff.1 h
  exact ⟨by omega, near_of h2, by omega⟩
theorem anyItem_ok {k : Nat} (hk : k ≤ 500000) {r : List UInt8 × Int} (hr : Good k r) :
    ∃ x r', M.spec_anyItem (r.1, r.2) = some (x, (r'.1, r'.2)) ∧ Good (k + 40) r' ∧ NearI x := by
  obtain ⟨x, r1, h1, g1, hx, _⟩ := item_ok (by omega) hr
  obtain ⟨c, r2, h2, g2, _, _, _⟩ := pick_ok (by omega) g1 16
  obtain ⟨hk1, hv, ht⟩ := isItem_iff.1 hx
  unfold M.spec_anyItem
  simp only [h1, h2, Option.bind_some]
  by_cases c0 : c = 0
  · obtain ⟨y, r3, h3, g3, m3⟩ := one_ok (by omega) g2 (list := [0, 99, 100]) (by simp)
    refine ⟨(y, x.2.1, x.2.2), r3, by simp [c0, h3], g3.mono (by omega), ⟨?_, near_of hv, by simp only; omega⟩⟩
    simp only [List.mem_cons, List.not_mem_nil, or_false] at m3; simp only; omega
  · have e0 : (c == 0) = false := by simpa using c0
    simp only [e0, cond_false]
    by_cases c1 : c = 1
    · obtain ⟨v, r3, h3, g3, n3⟩ := any_ok (by omega) g2
      exact ⟨(x.1, v, x.2.2), r3, by simp [c1, h3], g3.mono (by omega), ⟨by simp only; omega, n3, by simp only; omega⟩⟩
    · have e1 : (c == 1) = false := by simpa using c1
      simp only [e1, cond_false]
      by_cases c2 : c = 2
      · obtain ⟨y, r3, h3, g3, m3⟩ := one_ok (by omega) g2 (list := [-1, 16]) (by simp)
        refine ⟨(x.1, x.2.1, y), r3, by simp [c2, h3], g3.mono (by omega), ⟨by simp only; omega, near_of hv, ?_⟩⟩
        simp only [List.mem_cons, List.not_mem_nil, or_false] at m3; simp only; omega
      · have e2 : (c == 2) = false := by simpa using c2
        exact ⟨x, r2, by simp [e2], g2.mono (by omega), nearI_of hx⟩

theorem okStore_nil : okStore [] = true := rfl
theorem store_loop {n : Nat} : ∀ {k : Nat} {r : List UInt8 × Int} {l : List Item}, k + 14 * n ≤ 400000 → n ≤ 100 → Good k r → okStore l = true →
    ∃ l' r', loopM (fun (s27 : ((List UInt8) × (Int)) × (List (Int × (List Int) × Int)) × (Int)) => (bif decide (0 < s27.2.2) then
  Option.bind ((M.spec_someItem (s27.1.1, s27.1.2)).bind fun r39 =>
  (M.spec_PutItem s27.2.1 (r39.1.1, r39.1.2.1, r39.1.2.2)).bind fun r55 =>
  (bif r55.2 then
  some ((r39.2.1, r39.2.2), r55.1)
 else
  some ((r39.2.1, r39.2.2), s27.2.1))) fun o38 =>
  some (.inl ((o38.1.1, o38.1.2), o38.2, w64 (s27.2.2 - 1)))
 else
  some (.inr ((s27.1.1, s27.1.2), s27.2.1)))) (r, l, (n : Int)) = some (r', l') ∧ Good (k + 14 * n) r' ∧ okStore l' = true := by
  induction n with
  | zero => intro k r l _ _ hr hl; exact ⟨l, r, by rw [loopM_eq]; simp [selim], hr.mono (by omega), hl⟩
  | succ n ih =>
    intro k r l hk hn hr hl
    obtain ⟨x, r1, h1, g1, hx, _⟩ := item_ok (by omega) hr
    rw [loopM_eq]
    have e1 : decide ((0 : Int) < ((n + 1 : Nat) : Int)) = true := decide_eq_true (by omega)
    have e2 : w64 (((n + 1 : Nat) : Int) - 1) = (n : Int) := by rw [w64_id (by omega) (by omega)]; omega
    simp only [e1, cond_true, h1, Option.bind_some, specPutItem_ok (x := x) (okStore_small hl) (by have := isItem_len hx; omega), e2]
    by_cases hp : (putItem l x).2 = true
    · have hok : okStore (putItem l x).1 = true := by
        unfold putItem at hp ⊢
        split
        · rename_i h; simp only; rw [putS_okStore hl hx]; simpa using h.2.2
        · rename_i h; rw [if_neg h] at hp; cases hp
      obtain ⟨l', r', h2, h3, h4⟩ := ih (k := k + 14) (r := r1) (l := (putItem l x).1) (by omega) (by omega) g1 hok
      refine ⟨l', r', ?_, h3.mono (by omega), h4⟩
      simp only [hp, cond_true, Option.bind_some, selim]; exact h2
    · simp only [Bool.not_eq_true] at hp
      obtain ⟨l', r', h2, h3, h4⟩ := ih (k := k + 14) (r := r1) (l := l) (by omega) (by omega) g1 hl
      refine ⟨l', r', ?_, h3.mono (by omega), h4⟩
      simp only [hp, cond_false, Option.bind_some, selim]; exact h2
theorem someStore_ok {k : Nat} (hk : k ≤ 300000) {r : List UInt8 × Int} (hr : Good k r) :
    ∃ l r', M.spec_someStore (r.1, r.2) = some (l, (r'.1, r'.2)) ∧ Good (k + 281) r' ∧ okStore l = true := by
  obtain ⟨x, r1, h1, g1, m1⟩ := one_ok (by omega) hr (list := [4, 6, 8, 3, 1, 0, 20, 12]) (by simp)
  obtain ⟨n, rfl, hn⟩ : ∃ n : Nat, x = (n : Int) ∧ n ≤ 20 := ⟨x.toNat, by simp only [List.mem_cons, List.not_mem_nil, or_false] at m1; omega, by simp only [List.mem_cons, List.not_mem_nil, or_false] at m1; omega⟩
  obtain ⟨l, r2, h2, g2, hl⟩ := store_loop (n := n) (k := k + 1) (r := r1) (l := []) (by omega) (by omega) g1 okStore_nil
  refine ⟨l, r2, ?_, g2.mono (by omega), hl⟩
  unfold M.spec_someStore
  simp only [h1, Option.bind_some]
  rw [show ((r1.1, r1.2), ([] : List Item), (n : Int)) = (r1, [], (n : Int)) from rfl, h2]; rfl
/-- A store that may be drawn. -/
def NearS (l : List Item) : Prop := l.length ≤ 17 ∧ ∀ x ∈ l, NearI x
theorem NearS.small {l : List Item} (h : NearS l) : SmallS l := ⟨by have := h.1; omega, fun x hx => by have := (h.2 x hx).2.1.1; omega⟩
theorem nearS_of {l : List Item} (h : okStore l = true) : NearS l := by
  obtain ⟨h1, h2, _⟩ := okStore_iff.1 h
  exact ⟨by omega, fun x hx => nearI_of (h2 x hx)⟩
theorem anyStore_ok {k : Nat} (hk : k ≤ 200000) {r : List UInt8 × Int} (hr : Good k r) :
    ∃ l r', M.spec_anyStore (r.1, r.2) = some (l, (r'.1, r'.2)) ∧ Good (k + 400) r' ∧ NearS l := by
  obtain ⟨l, r1, h1, g1, hl⟩ := someStore_ok (by omega) hr
  obtain ⟨c, r2, h2, g2, _, _, _⟩ := pick_ok (by omega) g1 20
  have hN := nearS_of hl
  obtain ⟨hlen, hit, _⟩ := okStore_iff.1 hl
  unfold M.spec_anyStore
  simp only [h1, h2, Option.bind_some]
  by_cases c0 : c = 0
  · obtain ⟨x, r3, h3, g3, hx⟩ := anyItem_ok (by omega) g2
    refine ⟨l ++ [x], r3, ?_, g3.mono (by omega), by simp; omega, ?_⟩
    · simp only [c0, show ((0 : Int) == 0) = true from rfl, cond_true, h3, Option.bind_some]
      rw [gapp_ok (by simp; omega)]; rfl
    · intro y hy
      rcases List.mem_append.1 hy with h | h
      · exact hN.2 y h
      · simp only [List.mem_singleton] at h; subst h; exact hx
  · have e0 : (c == 0) = false := by simpa using c0
    simp only [e0, cond_false]
    by_cases c1 : c = 1
    · by_cases hpos : 0 < l.length
      · have e1 : decide (0 < (l.length : Int)) = true := by simp; omega
        obtain ⟨i, r3, h3, g3, a3, b3, _⟩ := pick_ok (by omega) g2 (l.length : Int)
        have b3 := b3 (by omega)
        obtain ⟨v, r4, h4, g4, n4⟩ := any_ok (by omega) g3
        obtain ⟨y, hy, my⟩ := gidx_lt' (xs := l) a3 b3
        refine ⟨l.set i.toNat (y.1, v, y.2.2), r4, ?_, g4.mono (by omega), by simp; omega, ?_⟩
        · simp only [c1, show ((1 : Int) == 1) = true from rfl, cond_true, e1, h3, h4, hy, Option.bind_some]
        · intro z hz
          rcases List.mem_or_eq_of_mem_set hz with h | h
          · exact hN.2 z h
          · subst h; exact ⟨(hN.2 y my).1, n4, (hN.2 y my).2.2⟩
      · have e1 : decide (0 < (l.length : Int)) = false := decide_eq_false (by omega)
        exact ⟨l, r2, by simp only [c1, show ((1 : Int) == 1) = true from rfl, cond_true, e1, cond_false, Option.bind_some], g2.mono (by omega), hN⟩
    · have e1 : (c == 1) = false := by simpa using c1
      exact ⟨l, r2, by simp [e1], g2.mono (by omega), hN⟩
end Go.Vs

namespace Go.Vs

end Go.Vs

namespace Go.Vs

section
variable {α S T R U : Type} {xs : List α}
end

theorem isItem_vec {x : Item} (h : isItem x = true) : isVec x.2.1 = true := (isItem_iff.1 h).2.1

end Go.Vs

namespace Go.Vs

/-! ## InBox -/
end Go.Vs

namespace Go.Vs

/-- A kind of distances that exists. -/
def isKind (k : Int) : Bool := decide (1 ≤ k) && decide (k ≤ 4)
theorem isKind_iff {k : Int} : isKind k = true ↔ 1 ≤ k ∧ k ≤ 4 := by unfold isKind; simp
theorem dk_nonneg {k g0 g1 g2 g3 : Int} (h : Gaps g0 g1 g2 g3) (hk : 1 ≤ k ∧ k ≤ 4) : 0 ≤ dk k g0 g1 g2 g3 := by
  obtain ⟨n0, n1, n2, n3, m0, m1, m2, m3⟩ := h
  have s0 := sq_bounds n0 m0
  have s1 := sq_bounds n1 m1
  have s2 := sq_bounds n2 m2
  have s3 := sq_bounds n3 m3
  by_cases k1 : k = 1
  · subst k1; simp only [dk, if_true]; omega
  by_cases k2 : k = 2
  · subst k2; rw [dk, if_neg (by omega), if_pos rfl]; omega
  by_cases k3 : k = 3
  · subst k3; rw [dk, if_neg (by omega), if_neg (by omega), if_pos rfl]; omega
  · have k4 : k = 4 := by omega
    subst k4; rw [dk, if_neg (by omega), if_neg (by omega), if_neg (by omega), if_pos rfl]; omega
theorem dist_range {k : Int} {a b : List Int} (hk : isKind k = true) (ha : isVec a = true) (hb : isVec b = true) : 0 ≤ dist k a b ∧ dist k a b < 1000000 := by
  obtain ⟨x0, x1, x2, x3, rfl, c0, c1, c2, c3⟩ := isVec_cut ha
  obtain ⟨y0, y1, y2, y3, rfl, e0, e1, e2, e3⟩ := isVec_cut hb
  rw [dist_vec ha hb]
  have G := gaps_of c0 c1 c2 c3 e0 e1 e2 e3
  exact ⟨dk_nonneg G (isKind_iff.1 hk), (dk_range G).2⟩
theorem specDist_vec {k : Int} {a b : List Int} (hk : isKind k = true) (ha : isVec a = true) (hb : isVec b = true) : M.spec_dist k a b = some (dist k a b) := by
  obtain ⟨x0, x1, x2, x3, rfl, c0, c1, c2, c3⟩ := isVec_cut ha
  obtain ⟨y0, y1, y2, y3, rfl, e0, e1, e2, e3⟩ := isVec_cut hb
  rw [dist_vec ha hb]
  exact specDist_ok (isKind_iff.1 hk) c0 c1 c2 c3 e0 e1 e2 e3
theorem implDist_vec {k : Int} {a b : List Int} (ha : isVec a = true) (hb : isVec b = true) : M.impl_Distance k a b = some (dist k a b) :=
  implDistance_ok k (by rw [(isVec_iff.1 ha).1]; omega) (by rw [(isVec_iff.1 hb).1]; omega)

end Go.Vs

namespace Go.Vs

/-! ## What is drawn -/
theorem NearI.le {x : Item} (h : NearI x) : x.2.1.length ≤ 1048576 := by have := h.2.1.1; omega
section
variable {code : List UInt8}
end
end Go.Vs

namespace Go.Vs

end Go.Vs

namespace Go.Vs

end Go.Vs

namespace Go.Vs

end Go.Vs

namespace Go.Vs

noncomputable def G.sift {α : Type} (cmp : α → α → Option Int) (data_0 : List α) (lo_1 : Int) (hi_2 : Int) (first_3 : Int) : Option ((List α)) :=
  Option.bind (loopM (fun (s2 : (List α) × (Int)) => (bif decide (hi_2 ≤ (w64 ((w64 (2 * s2.2)) + 1))) then
  some (.inr (.inl s2.1))
 else
  Option.bind ((bif decide ((w64 ((w64 ((w64 (2 * s2.2)) + 1)) + 1)) < hi_2) then
  (gidx s2.1 (w64 (first_3 + (w64 ((w64 (2 * s2.2)) + 1))))).bind fun x8 =>
  (gidx s2.1 (w64 ((w64 (first_3 + (w64 ((w64 (2 * s2.2)) + 1)))) + 1))).bind fun x15 =>
  (cmp x8 x15).bind fun r23 =>
  some (decide (r23 < 0))
 else
  some false)) fun o6 =>
  Option.bind ((bif o6 then
  some (w64 ((w64 ((w64 (2 * s2.2)) + 1)) + 1))
 else
  some (w64 ((w64 (2 * s2.2)) + 1)))) fun o29 =>
  (gidx s2.1 (w64 (first_3 + s2.2))).bind fun x32 =>
  (gidx s2.1 (w64 (first_3 + o29))).bind fun x39 =>
  (cmp x32 x39).bind fun r47 =>
  (bif !(decide (r47 < 0)) then
  some (.inr (.inr s2.1))
 else
  (gidx s2.1 (w64 (first_3 + o29))).bind fun x52 =>
  (gidx s2.1 (w64 (first_3 + s2.2))).bind fun x59 =>
  (gidx s2.1 (w64 (first_3 + s2.2))).bind fun x66 =>
  (gidx (s2.1.set (w64 (first_3 + s2.2)).toNat x52) (w64 (first_3 + o29))).bind fun x72 =>
  some (.inl (((s2.1.set (w64 (first_3 + s2.2)).toNat x52).set (w64 (first_3 + o29)).toNat x59), o29))))) (data_0, lo_1)) (selim (fun t78 => some t78)
   (fun t81 => some t81))

noncomputable def G.heap {α : Type} (cmp : α → α → Option Int) (data_0 : List α) (a_1 : Int) (b_2 : Int) : Option ((List α)) :=
  Option.bind (loopM (fun (s2 : (List α) × (Int)) => (bif decide (0 ≤ s2.2) then
  (G.sift cmp s2.1 s2.2 (w64 (b_2 - a_1)) a_1).bind fun r6 =>
  some (.inl (r6, w64 (s2.2 - 1)))
 else
  some (.inr s2.1))) (data_0, w64 ((w64 ((w64 (b_2 - a_1)) - 1)).tdiv 2))) fun o1 =>
  Option.bind (loopM (fun (s14 : (List α) × (Int)) => (bif decide (0 ≤ s14.2) then
  (gidx s14.1 (w64 (a_1 + s14.2))).bind fun x18 =>
  (gidx s14.1 a_1).bind fun x25 =>
  (gidx s14.1 a_1).bind fun x32 =>
  (gidx (s14.1.set a_1.toNat x18) (w64 (a_1 + s14.2))).bind fun x38 =>
  (G.sift cmp ((s14.1.set a_1.toNat x18).set (w64 (a_1 + s14.2)).toNat x25) 0 s14.2 a_1).bind fun r44 =>
  some (.inl (r44, w64 (s14.2 - 1)))
 else
  some (.inr s14.1))) (o1, w64 ((w64 (b_2 - a_1)) - 1))) fun o13 =>
  some o13

noncomputable def G.o2 {α : Type} (cmp : α → α → Option Int) (data_0 : List α) (a_1 : Int) (b_2 : Int) (swaps_3 : Int) : Option (Int × Int × Int) :=
  (gidx data_0 b_2).bind fun x1 =>
  (gidx data_0 a_1).bind fun x8 =>
  (cmp x1 x8).bind fun r16 =>
  (bif decide (r16 < 0) then
  some (b_2, a_1, w64 (swaps_3 + 1))
 else
  some (a_1, b_2, swaps_3))

section
end
end Go.Vs

namespace Go.Vs

section
variable {α : Type} [Inhabited α]
def el (d : List α) (i : Nat) : α := d.getD i default
theorem el_lt {d : List α} {i : Nat} (h : i < d.length) : el d i = d[i] := by simp [el, List.getD, h]
/-- d' is d with the places a ≤ i < b permuted among themselves. -/
structure PermR (a b : Nat) (d d' : List α) : Prop where
  len : d'.length = d.length
  out : ∀ i, i < a ∨ b ≤ i → el d' i = el d i
  perm : d'.Perm d
theorem PermR.refl {a b : Nat} (d : List α) : PermR a b d d := ⟨rfl, fun _ _ => rfl, List.Perm.refl _⟩
theorem PermR.trans {a b : Nat} {d d' d'' : List α} (h : PermR a b d d') (k : PermR a b d' d'') : PermR a b d d'' :=
  ⟨k.len.trans h.len, fun i hi => (k.out i hi).trans (h.out i hi), k.perm.trans h.perm⟩
theorem PermR.mono {a b a' b' : Nat} {d d' : List α} (h : PermR a b d d') (ha : a' ≤ a) (hb : b ≤ b') : PermR a' b' d d' :=
  ⟨h.len, fun i hi => h.out i (by omega), h.perm⟩
/-- What is in the part is in the part. -/
theorem PermR.mem {a b : Nat} {d d' : List α} (h : PermR a b d d') (hab : a ≤ b) (hb : b ≤ d.length) {i : Nat} (h1 : a ≤ i) (h2 : i < b) : ∃ j, a ≤ j ∧ j < b ∧ el d' i = el d j := by
  have cut : ∀ (e : List α), e.length = d.length → e = e.take a ++ ((e.take b).drop a ++ e.drop b) := by
    intro e he
    rw [← List.append_assoc]
    have : e.take a ++ (e.take b).drop a = e.take b := by
      have := List.take_append_drop a (e.take b)
      rwa [List.take_take, Nat.min_eq_left hab] at this
    rw [this, List.take_append_drop]
  have hl := h.len
  have e1 : d'.take a = d.take a := by
    apply List.ext_getElem
    · simp [hl]
    · intro k h3 h4
      simp only [List.length_take] at h3 h4
      rw [List.getElem_take, List.getElem_take, ← el_lt, ← el_lt]
      exact h.out k (by omega)
  have e2 : d'.drop b = d.drop b := by
    apply List.ext_getElem
    · simp [hl]
    · intro k h3 h4
      simp only [List.length_drop] at h3 h4
      rw [List.getElem_drop, List.getElem_drop, ← el_lt, ← el_lt]
      exact h.out (b + k) (by omega)
  have hp := h.perm
  rw [cut d' hl, cut d rfl, e1, e2] at hp
  have hp2 := (List.perm_append_right_iff _).1 ((List.perm_append_left_iff _).1 hp)
  have hm : el d' i ∈ (d'.take b).drop a := by
    rw [el_lt (by omega)]
    refine List.mem_iff_getElem.2 ⟨i - a, by simp; omega, ?_⟩
    simp only [List.getElem_drop, List.getElem_take]
    congr 1; omega
  have hm2 := hp2.mem_iff.1 hm
  obtain ⟨k, hk, e⟩ := List.mem_iff_getElem.1 hm2
  simp only [List.length_drop, List.length_take] at hk
  refine ⟨a + k, by omega, by omega, ?_⟩
  rw [← e, el_lt (by omega)]
  simp only [List.getElem_drop, List.getElem_take]
end

/-- What is asked of the order of these elements. -/
structure Lin {α : Type} (lt : α → α → Bool) (p : α → Prop) : Prop where
  irrefl : ∀ x, p x → lt x x = false
  trans : ∀ x y z, p x → p y → p z → lt x y = true → lt y z = true → lt x z = true
  total : ∀ x y, p x → p y → x ≠ y → lt x y = true ∨ lt y x = true
theorem Lin.asymm {α : Type} {lt : α → α → Bool} {p : α → Prop} (h : Lin lt p) {x y : α} (hx : p x) (hy : p y) (hl : lt x y = true) : lt y x = false := by
  cases e : lt y x with
  | false => rfl
  | true => have := h.trans x y x hx hy hx hl e; rw [h.irrefl x hx] at this; cases this
/-- Not less than: transitive. -/
theorem Lin.ntrans {α : Type} {lt : α → α → Bool} {p : α → Prop} (h : Lin lt p) {x y z : α} (hx : p x) (hy : p y) (hz : p z) (h1 : lt x y = false) (h2 : lt y z = false) : lt x z = false := by
  cases e : lt x z with
  | false => rfl
  | true =>
    rcases Classical.em (x = y) with rfl | hne
    · rw [h2] at e; cases e
    · rcases h.total x y hx hy hne with h' | h'
      · rw [h1] at h'; cases h'
      · have := h.trans y x z hy hx hz h' e
        rw [h2] at this; cases this
def AllP {α : Type} [Inhabited α] (p : α → Prop) (d : List α) : Prop := ∀ i, i < d.length → p (el d i)
theorem AllP.of {α : Type} [Inhabited α] {p : α → Prop} {d : List α} (h : ∀ x ∈ d, p x) : AllP p d := fun i hi => h _ (by rw [el_lt hi]; exact List.getElem_mem _)
theorem AllP.perm {α : Type} [Inhabited α] {p : α → Prop} {d d' : List α} (h : AllP p d) (hp : d'.Perm d) : AllP p d' := by
  refine AllP.of fun x hx => ?_
  obtain ⟨i, hi, e⟩ := List.mem_iff_getElem.1 (hp.mem_iff.1 hx)
  rw [← e, ← el_lt hi]; exact h i hi
/-- Ascending on a ≤ i < b. -/
def Asc {α : Type} [Inhabited α] (lt : α → α → Bool) (a b : Nat) (d : List α) : Prop := ∀ i j, a ≤ i → i < j → j < b → lt (el d j) (el d i) = false
end Go.Vs

namespace Go.Vs

section
variable {α : Type} {cmp : α → α → Option Int} {lt : α → α → Bool} {p : α → Prop}
end

section
variable {α : Type} [Inhabited α] {cmp : α → α → Option Int} {lt : α → α → Bool} {p : α → Prop}
end
end Go.Vs

namespace Go.Vs

section
variable {α : Type} [Inhabited α] {cmp : α → α → Option Int} {lt : α → α → Bool} {p : α → Prop}
end
end Go.Vs

namespace Go.Vs

section
variable {α : Type} [Inhabited α] {cmp : α → α → Option Int} {lt : α → α → Bool} {p : α → Prop}

/-- What the partition gives. -/
structure Parted (lt : α → α → Bool) (a b : Nat) (d : List α) (m : Nat) (d' : List α) : Prop where
  ge : a ≤ m
  le : m < b
  perm : PermR a b d d'
  low : ∀ i, a ≤ i → i < m → lt (el d' i) (el d' m) = true
  high : ∀ i, m < i → i < b → lt (el d' i) (el d' m) = false
end
end Go.Vs

namespace Go.Vs

section
variable {α : Type} [Inhabited α] {cmp : α → α → Option Int} {lt : α → α → Bool} {p : α → Prop}

/-- Ascending, but for pairs that are both in the part. -/
def NIn (lt : α → α → Bool) (a0 b0 a b : Nat) (d : List α) : Prop := ∀ i j, a0 ≤ i → i < j → j < b0 → ¬ (a ≤ i ∧ j < b) → lt (el d j) (el d i) = false
theorem NIn.perm {a0 b0 a b : Nat} {d d' : List α} (h : NIn lt a0 b0 a b d) (hP : PermR a b d d') (ha : a0 ≤ a) (hab : a ≤ b) (hb : b ≤ b0) (hb0 : b0 ≤ d.length) : NIn lt a0 b0 a b d' := by
  intro i j h1 h2 h3 h4
  have cl : ∀ k, ∃ k', el d' k = el d k' ∧ ((a ≤ k ∧ k < b) → a ≤ k' ∧ k' < b) ∧ (¬ (a ≤ k ∧ k < b) → k' = k) := by
    intro k
    by_cases hk : a ≤ k ∧ k < b
    · obtain ⟨k', g1, g2, g3⟩ := hP.mem hab (by omega) hk.1 hk.2
      exact ⟨k', g3, fun _ => ⟨g1, g2⟩, fun h => absurd hk h⟩
    · exact ⟨k, hP.out k (by omega), fun h => absurd h hk, fun _ => rfl⟩
  obtain ⟨i', e1, q1, q2⟩ := cl i
  obtain ⟨j', e2, q3, q4⟩ := cl j
  rw [e1, e2]
  by_cases hi : a ≤ i ∧ i < b
  · have := q1 hi
    by_cases hj : a ≤ j ∧ j < b
    · exact absurd ⟨hi.1, hj.2⟩ h4
    · have := q4 hj; subst this; exact h i' j' (by omega) (by omega) h3 (by omega)
  · have := q2 hi; subst this
    by_cases hj : a ≤ j ∧ j < b
    · have := q3 hj; exact h i' j' h1 (by omega) (by omega) (by omega)
    · have := q4 hj; subst this; exact h i' j' h1 h2 h3 (by omega)
theorem NIn.done {a0 b0 a b : Nat} {d : List α} (h : NIn lt a0 b0 a b d) (hA : Asc lt a b d) : Asc lt a0 b0 d := by
  intro i j h1 h2 h3
  by_cases hc : a ≤ i ∧ j < b
  · exact hA i j hc.1 h2 hc.2
  · exact h i j h1 h2 h3 hc
end
end Go.Vs

namespace Go.Vs

abbrev Hit := Int × Int
/-- Which one of two hits is nearer. -/
def ltH (x y : Hit) : Bool := decide (x.2 < y.2 ∨ x.2 = y.2 ∧ x.1 < y.1)
theorem ltH_iff {x y : Hit} : ltH x y = true ↔ x.2 < y.2 ∨ x.2 = y.2 ∧ x.1 < y.1 := by simp [ltH]
theorem ltH_false {x y : Hit} : ltH x y = false ↔ ¬ (x.2 < y.2 ∨ x.2 = y.2 ∧ x.1 < y.1) := by simp [ltH]
theorem linH : Lin ltH (fun _ => True) where
  irrefl x _ := by rw [ltH_false]; omega
  trans x y z _ _ _ h1 h2 := by rw [ltH_iff] at *; omega
  total x y _ _ h := by
    rw [ltH_iff, ltH_iff]
    by_cases e : x.2 = y.2
    · have : x.1 ≠ y.1 := fun e2 => h (Prod.ext e2 e)
      omega
    · omega
end Go.Vs

namespace Go.Vs

/-- Into its place. -/
def insH (x : Hit) : List Hit → List Hit
  | [] => [x]
  | y :: r => if ltH x y then x :: y :: r else y :: insH x r
def AscH (l : List Hit) : Prop := l.Pairwise fun x y => ltH y x = false
theorem insH_perm (x : Hit) (l : List Hit) : (insH x l).Perm (x :: l) := by
  induction l with
  | nil => exact List.Perm.refl _
  | cons y r ih =>
    unfold insH
    split
    · exact List.Perm.refl _
    · exact (List.Perm.cons y ih).trans (List.Perm.swap x y r)
theorem insH_asc {x : Hit} {l : List Hit} (h : AscH l) : AscH (insH x l) := by
  induction l with
  | nil => exact List.pairwise_singleton _ _
  | cons y r ih =>
    obtain ⟨h1, h2⟩ := List.pairwise_cons.1 h
    unfold insH
    split
    · rename_i hlt
      refine List.pairwise_cons.2 ⟨fun z hz => ?_, h⟩
      rcases List.mem_cons.1 hz with rfl | hz
      · exact linH.asymm trivial trivial hlt
      · exact linH.ntrans trivial trivial trivial (h1 z hz) (linH.asymm trivial trivial hlt)
    · rename_i hlt
      refine List.pairwise_cons.2 ⟨fun z hz => ?_, ih h2⟩
      rcases List.mem_cons.1 ((insH_perm x r).mem_iff.1 hz) with rfl | hz
      · simpa using hlt
      · exact h1 z hz
theorem ltH_antisymm {x y : Hit} (h1 : ltH x y = false) (h2 : ltH y x = false) : x = y := by
  rcases Classical.em (x = y) with h | h
  · exact h
  · rcases linH.total x y trivial trivial h with h' | h'
    · rw [h1] at h'; cases h'
    · rw [h2] at h'; cases h'
theorem asc_uniq {l m : List Hit} (hl : AscH l) (hm : AscH m) (h : l.Perm m) : l = m :=
  List.Perm.eq_of_pairwise (le := fun x y => ltH y x = false) (fun _ _ _ _ h1 h2 => ltH_antisymm h2 h1) hl hm h
/-- All in order. -/
def isort (l : List Hit) : List Hit := l.foldl (fun S x => insH x S) []
theorem isort_spec (l : List Hit) : AscH (isort l) ∧ (isort l).Perm l := by
  have key : ∀ (l S : List Hit), AscH S → AscH (l.foldl (fun S x => insH x S) S) ∧ (l.foldl (fun S x => insH x S) S).Perm (S ++ l) := by
    intro l
    induction l with
    | nil => intro S h; exact ⟨h, by simp⟩
    | cons x r ih =>
      intro S h
      obtain ⟨h1, h2⟩ := ih (insH x S) (insH_asc h)
      refine ⟨h1, h2.trans ?_⟩
      have := List.Perm.append_right r (insH_perm x S)
      exact this.trans (List.perm_middle.symm)
  exact key l [] List.Pairwise.nil
theorem isort_uniq {l m : List Hit} (hm : AscH m) (h : m.Perm l) : isort l = m := asc_uniq (isort_spec l).1 hm ((isort_spec l).2.trans h.symm)
def topH (k : Nat) (l : List Hit) : List Hit := (isort l).take k
/-! ## What the heap keeps -/
/-! ## The searches -/
end Go.Vs

namespace Go.Vs

theorem dist_self {k : Int} {a : List Int} (hk : isKind k = true) (ha : isVec a = true) : dist k a a = 0 := by
  obtain ⟨x, y, z, w, rfl, _⟩ := isVec_four ha
  rw [dist_vec ha ha]
  have g : ∀ t : Int, gap t t = 0 := fun t => (gap_zero t t).2 rfl
  rw [g, g, g, g]
  rcases isKind_iff.1 hk with ⟨k1, k2⟩
  unfold dk
  rcases (show k = 1 ∨ k = 2 ∨ k = 3 ∨ k = 4 by omega) with rfl | rfl | rfl | rfl <;> rfl
end Go.Vs

namespace Go.Vs

end Go.Vs

namespace Go.Vs

end Go.Vs

namespace Go.Vs

end Go.Vs

namespace Go.Vs

end Go.Vs

namespace Go.Vs

end Go.Vs

namespace Go.Vs

/-- Items that may be put into a tree. -/
structure OkL (l : List Item) : Prop where
  len : l.length ≤ 16
  vec : ∀ x ∈ l, isVec x.2.1 = true
  keys : (l.map (·.1)).Nodup
theorem OkL.inj {l : List Item} (h : OkL l) : ∀ x y, x ∈ l → y ∈ l → x.1 = y.1 → x = y := fun x y hx hy e => by
  obtain ⟨i, hi, rfl⟩ := List.mem_iff_getElem.1 hx
  obtain ⟨j, hj, rfl⟩ := List.mem_iff_getElem.1 hy
  have hpw := List.pairwise_iff_getElem.1 (List.pairwise_map.1 h.keys)
  rcases Nat.lt_trichotomy i j with h | h | h
  · exact absurd e (hpw i j hi hj h)
  · subst h; rfl
  · exact absurd e.symm (hpw j i hj hi h)
theorem OkL.sub {l m : List Item} (h : OkL l) (hs : List.Sublist m l) : OkL m :=
  ⟨Nat.le_trans hs.length_le h.len, fun x hx => h.vec x (hs.subset hx), List.Nodup.sublist (hs.map _) h.keys⟩
theorem OkL.perm {l m : List Item} (h : OkL l) (hp : m.Perm l) : OkL m :=
  ⟨by rw [hp.length_eq]; exact h.len, fun x hx => h.vec x (hp.mem_iff.1 hx), (hp.map (·.1)).nodup_iff.2 h.keys⟩

end Go.Vs

namespace Go.Vs

abbrev Nod := Int × Int × Int × Int
def nodesT : Tr Item → Nat → List Nod
  | .nil, _ => []
  | .node x n l r, a => (x.1, n, (bif l.isNil then -1 else ((a + 1 : Nat) : Int)), (bif r.isNil then -1 else ((a + 1 + (nodesT l (a + 1)).length : Nat) : Int))) :: (nodesT l (a + 1) ++ nodesT r (a + 1 + (nodesT l (a + 1)).length))
def Tr.size : Tr Item → Nat
  | .nil => 0
  | .node _ _ l r => l.size + r.size + 1
theorem nodesT_len : ∀ (t : Tr Item) (a : Nat), (nodesT t a).length = t.size
  | .nil, _ => rfl
  | .node x n l r, a => by simp only [nodesT, List.length_cons, List.length_append, nodesT_len l, nodesT_len r, Tr.size]
end Go.Vs

namespace Go.Vs

end Go.Vs

namespace Go.Vs

end Go.Vs

namespace Go.Vs

end Go.Vs

namespace Go.Vs

def itemsT : Tr Item → List Item
  | .nil => []
  | .node x _ l r => x :: (itemsT l ++ itemsT r)
/-- A tree's nodes stand in a list, from a place on. -/
def Sub (L : List Nod) (t : Tr Item) (a : Nat) : Prop := ∃ pre post, L = pre ++ nodesT t a ++ post ∧ pre.length = a
theorem Sub.left {L : List Nod} {x : Item} {q : Int} {l r : Tr Item} {a : Nat} (h : Sub L (.node x q l r) a) : Sub L l (a + 1) := by
  obtain ⟨pre, post, rfl, rfl⟩ := h
  exact ⟨pre ++ (nodesT (.node x q l r) pre.length).take 1, nodesT r (pre.length + 1 + (nodesT l (pre.length + 1)).length) ++ post, by simp [nodesT], by simp [nodesT]⟩
theorem Sub.right {L : List Nod} {x : Item} {q : Int} {l r : Tr Item} {a : Nat} (h : Sub L (.node x q l r) a) : Sub L r (a + 1 + l.size) := by
  obtain ⟨pre, post, rfl, rfl⟩ := h
  exact ⟨pre ++ (nodesT (.node x q l r) pre.length).take 1 ++ nodesT l (pre.length + 1), post, by simp [nodesT, nodesT_len], by simp [nodesT, nodesT_len]; omega⟩
theorem Sub.get {L : List Nod} {x : Item} {q : Int} {l r : Tr Item} {a : Nat} (h : Sub L (.node x q l r) a) : ∃ hl : a < L.length, L[a] = (x.1, q, (bif l.isNil then -1 else ((a + 1 : Nat) : Int)), (bif r.isNil then -1 else ((a + 1 + l.size : Nat) : Int))) := by
  obtain ⟨pre, post, rfl, rfl⟩ := h
  exact ⟨by simp [nodesT], by simp [nodesT, nodesT_len]⟩
theorem Sub.gidx {L : List Nod} {x : Item} {q : Int} {l r : Tr Item} {a : Nat} (h : Sub L (.node x q l r) a) : Go.Vs.gidx L (a : Int) = some (x.1, q, (bif l.isNil then -1 else ((a + 1 : Nat) : Int)), (bif r.isNil then -1 else ((a + 1 + l.size : Nat) : Int))) := by
  obtain ⟨hl, e⟩ := h.get
  rw [gidx_nat hl, e]
theorem sub_self (t : Tr Item) : Sub (nodesT t 0) t 0 := ⟨[], [], by simp, rfl⟩

end Go.Vs

namespace Go.Vs

def hitV (kd : Int) (v : List Int) (x : Item) : Hit := (x.1, dist kd x.2.1 v)
def hitsV (kd : Int) (v : List Int) (l : List Item) : List Hit := l.map (hitV kd v)
/-- How far a search looks. -/
def reachH (k : Nat) (V : List Hit) : Int := if (topH k V).length < k then 1000000 else ((topH k V).getD (k - 1) (0, 0)).2
/-! ## Lists with the same nearest ones -/
def SameT (k : Nat) (U V : List Hit) : Prop := topH k U = topH k V
theorem SameT.refl (k : Nat) (U : List Hit) : SameT k U U := rfl
theorem SameT.trans {k : Nat} {U V W : List Hit} (h : SameT k U V) (g : SameT k V W) : SameT k U W := Eq.trans h g
theorem SameT.symm {k : Nat} {U V : List Hit} (h : SameT k U V) : SameT k V U := Eq.symm h
theorem SameT.perm {k : Nat} {U V : List Hit} (h : U.Perm V) : SameT k U V := by
  show topH k U = topH k V
  unfold topH
  rw [isort_uniq (isort_spec V).1 ((isort_spec V).2.trans h.symm)]
theorem SameT.reach {k : Nat} {U V : List Hit} (h : SameT k U V) : reachH k U = reachH k V := by
  unfold reachH
  rw [h]
/-! ## Trees find the nearest -/
/-! ## At how many nodes they look -/
noncomputable def vis (kd : Int) (v : List Int) (k : Nat) : Tr Item → List Hit → Nat
  | .nil, _ => 0
  | .node x q l r, P =>
    if dist kd x.2.1 v ≤ q then
      vis kd v k l (P ++ [hitV kd v x]) + 1 + (if q - dist kd x.2.1 v ≤ reachH k (P ++ [hitV kd v x] ++ hitsV kd v (itemsT l)) then vis kd v k r (P ++ [hitV kd v x] ++ hitsV kd v (itemsT l)) else 0)
    else
      vis kd v k r (P ++ [hitV kd v x]) + 1 + (if dist kd x.2.1 v - q ≤ reachH k (P ++ [hitV kd v x] ++ hitsV kd v (itemsT r)) then vis kd v k l (P ++ [hitV kd v x] ++ hitsV kd v (itemsT r)) else 0)
end Go.Vs

namespace Go.Vs

/-! ## The program's search -/
/-! ## What is answered -/
end Go.Vs

namespace Go.Vs

/-! ## Exact laws -/
end Go.Vs

namespace Go.Vs

end Go.Vs

namespace Go.Vs

/-! ## The first of the least -/
def IsLeast (D : Nat → Int) (n k : Nat) : Prop := k < n ∧ (∀ j, j < n → D k ≤ D j) ∧ ∀ j, j < k → D k < D j
def leastN (D : Nat → Int) : Nat → Nat
  | 0 => 0
  | n + 1 => if D n < D (leastN D n) then n else leastN D n
theorem leastN_one (D : Nat → Int) : leastN D 1 = 0 := by simp [leastN]
theorem leastN_is (D : Nat → Int) : ∀ n, 1 ≤ n → IsLeast D n (leastN D n)
  | 0, h => by omega
  | 1, _ => by
    rw [leastN_one]
    refine ⟨by omega, fun j hj => ?_, fun j hj => by omega⟩
    have : j = 0 := by omega
    subst this; omega
  | n + 2, _ => by
    obtain ⟨h1, h2, h3⟩ := leastN_is D (n + 1) (by omega)
    unfold leastN
    split
    · rename_i h
      refine ⟨by omega, fun j hj => ?_, fun j hj => ?_⟩
      · rcases Nat.lt_or_ge j (n + 1) with hj' | hj'
        · have := h2 j hj'; omega
        · have : j = n + 1 := by omega
          subst this; omega
      · have := h2 j hj; omega
    · rename_i h
      refine ⟨by omega, fun j hj => ?_, h3⟩
      rcases Nat.lt_or_ge j (n + 1) with hj' | hj'
      · exact h2 j hj'
      · have : j = n + 1 := by omega
        subst this; omega
def okC (cs : List (List Int)) : Bool := decide (1 ≤ cs.length) && decide (cs.length ≤ 4) && cs.all isVec
theorem okC_iff {cs : List (List Int)} : okC cs = true ↔ (1 ≤ cs.length ∧ cs.length ≤ 4) ∧ ∀ c ∈ cs, isVec c = true := by
  unfold okC; simp [and_assoc]
def SmallC (cs : List (List Int)) : Prop := cs.length < 2000000 ∧ ∀ c ∈ cs, c.length < 2000000
theorem okC_small {cs : List (List Int)} (h : okC cs = true) : SmallC cs := by
  obtain ⟨⟨_, h2⟩, h3⟩ := okC_iff.1 h
  exact ⟨by omega, fun c hc => by have := (isVec_iff.1 (h3 c hc)).1; omega⟩
def cD (cs : List (List Int)) (v : List Int) (j : Nat) : Int := dist 3 (cs.getD j []) v
def cen (cs : List (List Int)) (v : List Int) : Nat := leastN (cD cs v) cs.length
theorem cD_at {cs : List (List Int)} {v : List Int} {j : Nat} (h : j < cs.length) : cD cs v j = dist 3 cs[j] v := by
  unfold cD; simp [List.getD, h]
theorem cen_is {cs : List (List Int)} {v : List Int} (h : okC cs = true) : IsLeast (cD cs v) cs.length (cen cs v) := leastN_is _ _ (okC_iff.1 h).1.1
theorem kind3 : isKind 3 = true := rfl
theorem cD_range {cs : List (List Int)} {v : List Int} {j : Nat} (h : okC cs = true) (hv : isVec v = true) (hj : j < cs.length) : 0 ≤ cD cs v j ∧ cD cs v j < 1000000 := by
  rw [cD_at hj]
  exact dist_range kind3 ((okC_iff.1 h).2 _ (List.getElem_mem hj)) hv
theorem implVecs_ok {l : List (List Int)} {m : Nat} (s : SmallC l) : M.impl_validVectors l (m : Int) = some (decide (1 ≤ l.length) && decide (l.length ≤ m) && l.all isVec) := by
  unfold M.impl_validVectors
  have hl := s.1
  by_cases h1 : 1 ≤ l.length
  · have e1 : decide ((l.length : Int) < 1) = false := decide_eq_false (by omega)
    by_cases h2 : l.length ≤ m
    · have e2 : decide ((m : Int) < (l.length : Int)) = false := decide_eq_false (by omega)
      simp only [e1, e2, cond_false, Option.bind_some, h1, h2, decide_true, Bool.true_and]
      rw [loop_all (xs := l) (P := isVec) (r := false)]
      · by_cases h : l.all isVec = true
        · rw [if_pos h, h]; rfl
        · rw [if_neg h]; simp only [Bool.not_eq_true] at h; rw [h]; rfl
      · intro i hi
        have e5 : decide ((i : Int) < (l.length : Int)) = true := decide_eq_true (by omega)
        have e6 : w64 ((i : Int) + 1) = (i : Int) + 1 := w64_id (by omega) (by omega)
        simp only [e5, cond_true, gidx_nat hi, Option.bind_some, impl_valid l[i] (s.2 _ (List.getElem_mem hi)), e6]
        cases isVec l[i] <;> simp
      · simp
    · have e2 : decide ((m : Int) < (l.length : Int)) = true := decide_eq_true (by omega)
      simp only [e1, e2, cond_false, cond_true, Option.bind_some, h2, decide_false, Bool.and_false, Bool.false_and]
  · have e1 : decide ((l.length : Int) < 1) = true := decide_eq_true (by omega)
    simp only [e1, cond_true, Option.bind_some, h1, decide_false, Bool.false_and]
theorem implValidC_ok {cs : List (List Int)} (s : SmallC cs) : M.impl_ValidCentres cs = some (okC cs) := by
  unfold M.impl_ValidCentres okC
  have : M.impl_validVectors cs 4 = _ := implVecs_ok (m := 4) s
  simp [this]
theorem specvC_ok {cs : List (List Int)} (s : SmallC cs) : M.spec_validCentres cs = some (okC cs) := by
  unfold M.spec_validCentres okC
  have hl := s.1
  rw [loop_all (xs := cs) (P := isVec) (r := false)]
  · by_cases h : cs.all isVec = true
    · rw [if_pos h, h]
      simp only [Option.bind_some, selim, spec_inR, Bool.and_true]
      congr 1
      rw [Bool.eq_iff_iff]; simp
      omega
    · rw [if_neg h]; simp only [Bool.not_eq_true] at h; rw [h]; simp [selim]
  · intro i hi
    have e5 : decide ((i : Int) < (cs.length : Int)) = true := decide_eq_true (by omega)
    have e6 : w64 ((i : Int) + 1) = (i : Int) + 1 := w64_id (by omega) (by omega)
    simp only [e5, cond_true, gidx_nat hi, Option.bind_some, spec_isVec cs[i] (s.2 _ (List.getElem_mem hi)), e6]
    cases isVec cs[i] <;> simp
  · simp
/-- The number of the nearest centre. -/
def centreV (cs : List (List Int)) (v : List Int) : Int := if okC cs = true ∧ isVec v = true then (cen cs v : Int) else -1
theorem centreV_of {cs : List (List Int)} {v : List Int} (h : okC cs = true) (hv : isVec v = true) : centreV cs v = (cen cs v : Int) := by unfold centreV; rw [if_pos ⟨h, hv⟩]
theorem implDist3 {a b : List Int} (ha : isVec a = true) (hb : isVec b = true) : M.impl_Distance 3 a b = some (dist 3 a b) := implDist_vec ha hb
theorem implCentre_ok {cs : List (List Int)} {v : List Int} (s : SmallC cs) (hv : v.length < 2000000) : M.impl_CentreOf cs v = some (centreV cs v) := by
  unfold M.impl_CentreOf centreV
  simp only [implValidC_ok s, Option.bind_some, impl_valid v hv]
  cases hc : okC cs with
  | false => simp
  | true =>
    cases hvv : isVec v with
    | false => simp
    | true =>
      obtain ⟨⟨c1, c4⟩, hvec⟩ := okC_iff.1 hc
      simp only [Bool.not_true, cond_false, Option.bind_some, and_self, if_true]
      have hloop := loop_run (R := Int) (f := fun (s14 : (Int) × (Int) × (Int)) => (bif decide (s14.2.2 < (cs.length : Int)) then
  Option.bind ((gidx cs s14.2.2).bind fun x18 =>
  (M.impl_Distance 3 x18 v).bind fun r28 =>
  (bif decide (r28 < s14.2.1) then
  some (s14.2.2, r28)
 else
  some (s14.1, s14.2.1))) fun o17 =>
  some (.inl (o17.1, o17.2, w64 (s14.2.2 + 1)))
 else
  some (.inr s14.1))) (r := (cen cs v : Int)) cs.length (fun i => ((leastN (cD cs v) i : Int), (if i = 0 then 1000000 else cD cs v (leastN (cD cs v) i)), (i : Int))) (by
        intro i hi
        have e1 : decide ((i : Int) < (cs.length : Int)) = true := decide_eq_true (by omega)
        have e2 : w64 ((i : Int) + 1) = ((i + 1 : Nat) : Int) := w64_succ (by omega)
        have hr := cD_range (v := v) (j := i) hc hvv hi
        simp only [e1, cond_true, gidx_nat hi, Option.bind_some, implDist3 (hvec _ (List.getElem_mem hi)) hvv, e2, ← cD_at hi]
        by_cases h0 : i = 0
        · subst h0
          have : decide (cD cs v 0 < 1000000) = true := decide_eq_true hr.2
          simp only [if_true, this, cond_true, Option.bind_some]
          simp [leastN]
        · simp only [if_neg h0]
          by_cases hlt : cD cs v i < cD cs v (leastN (cD cs v) i)
          · simp [hlt, leastN]
          · simp [hlt, leastN]) (by
        have e1 : decide ((cs.length : Int) < (cs.length : Int)) = false := decide_eq_false (by omega)
        simp only [e1, cond_false, cen])
      simp only [leastN, if_true, Int.cast_ofNat_Int] at hloop
      rw [hloop]; rfl
theorem specc_ok {cs : List (List Int)} {v : List Int} (hc : okC cs = true) (hvv : isVec v = true) : M.spec_centreOf cs v = some (cen cs v : Int) := by
  unfold M.spec_centreOf
  obtain ⟨⟨c1, c4⟩, hvec⟩ := okC_iff.1 hc
  have hloop := loop_run (R := Int) (f := fun (s2 : (Int) × (Int)) => (bif decide (s2.2 < (cs.length : Int)) then
  Option.bind ((gidx cs s2.2).bind fun x6 =>
  (M.spec_dist 3 x6 v).bind fun r16 =>
  (gidx cs s2.1).bind fun x19 =>
  (M.spec_dist 3 x19 v).bind fun r30 =>
  (bif decide (r16 < r30) then
  some s2.2
 else
  some s2.1)) fun o5 =>
  some (.inl (o5, w64 (s2.2 + 1)))
 else
  some (.inr s2.1))) (r := (cen cs v : Int)) (cs.length - 1) (fun i => ((leastN (cD cs v) (i + 1) : Int), ((i + 1 : Nat) : Int))) (by
    intro i hi
    have hi1 : i + 1 < cs.length := by omega
    have e1 : decide (((i + 1 : Nat) : Int) < (cs.length : Int)) = true := decide_eq_true (by omega)
    have e2 : w64 (((i + 1 : Nat) : Int) + 1) = ((i + 1 + 1 : Nat) : Int) := w64_succ (by omega)
    have hk := (leastN_is (cD cs v) (i + 1) (by omega)).1
    have hk' : leastN (cD cs v) (i + 1) < cs.length := by omega
    simp only [e1, cond_true, gidx_nat hi1, gidx_nat hk', Option.bind_some, specDist_vec kind3 (hvec _ (List.getElem_mem hi1)) hvv, specDist_vec kind3 (hvec _ (List.getElem_mem hk')) hvv, e2, ← cD_at hi1, ← cD_at hk']
    rw [leastN.eq_2 (cD cs v) (i + 1)]
    by_cases hlt : cD cs v (i + 1) < cD cs v (leastN (cD cs v) (i + 1))
    · simp only [hlt, decide_true, cond_true, if_true, Option.bind_some]
    · simp only [hlt, decide_false, cond_false, if_false, Option.bind_some]) (by
    have e0 : cs.length - 1 + 1 = cs.length := by omega
    have e1 : decide ((cs.length : Int) < (cs.length : Int)) = false := decide_eq_false (by omega)
    simp only [e0, e1, cond_false, cen])
  simp only [leastN_one, Nat.zero_add, Int.cast_ofNat_Int] at hloop
  rw [hloop]; rfl
/-! ## Drawn centres -/
def NearC (cs : List (List Int)) : Prop := cs.length ≤ 5 ∧ ∀ c ∈ cs, Near c
theorem NearC.small {cs : List (List Int)} (h : NearC cs) : SmallC cs := ⟨by have := h.1; omega, fun c hc => by have := (h.2 c hc).1; omega⟩
theorem someVectors_ok {k : Nat} (hk : k ≤ 300000) {r : List UInt8 × Int} (hr : Good k r) {n : Nat} (hn : n ≤ 5) : ∃ l r', M.spec_someVectors (r.1, r.2) (n : Int) = some (l, (r'.1, r'.2)) ∧ Good (k + 60) r' ∧ l.length = n ∧ ∀ v ∈ l, isVec v = true := by
  unfold M.spec_someVectors
  have key : ∀ m i : Nat, ∀ (r : List UInt8 × Int) (l : List (List Int)), i + m = n → Good (k + 12 * i) r → l.length = i → (∀ v ∈ l, isVec v = true) →
      ∃ r' l', loopM (fun (s4 : ((List UInt8) × (Int)) × (List (List Int)) × (Int)) => (bif decide (s4.2.2 < (n : Int)) then
  (M.spec_someVector (s4.1.1, s4.1.2)).bind fun r11 =>
  (gapp s4.2.1 ([r11.1] : List (List Int))).bind fun xs23 =>
  some (.inl ((r11.2.1, r11.2.2), xs23, w64 (s4.2.2 + 1)))
 else
  some (.inr ((s4.1.1, s4.1.2), s4.2.1)))) (r, l, (i : Int)) = some ((r'.1, r'.2), l') ∧ Good (k + 60) r' ∧ l'.length = n ∧ ∀ v ∈ l', isVec v = true := by
    intro m
    induction m with
    | zero =>
      intro i r l hi hg hl hv
      rw [loopM_eq]
      have e1 : decide ((i : Int) < (n : Int)) = false := decide_eq_false (by omega)
      simp only [e1, cond_false, Option.bind_some, selim]
      exact ⟨r, l, rfl, hg.mono (by omega), by omega, hv⟩
    | succ m ih =>
      intro i r l hi hg hl hv
      obtain ⟨r1, r2⟩ := r
      obtain ⟨v, ⟨q1, q2⟩, h1, g1, hv1⟩ := vector_ok (by omega) hg
      rw [loopM_eq]
      have e1 : decide ((i : Int) < (n : Int)) = true := decide_eq_true (by omega)
      simp only [e1, cond_true, h1, Option.bind_some]
      rw [gapp_ok (by simp; omega)]
      simp only [Option.bind_some, selim, w64_succ (i := i) (by omega)]
      exact ih (i + 1) (q1, q2) (l ++ [v]) (by omega) (by rw [Nat.mul_add]; exact g1) (by simp [hl]) (fun u hu => by
        rcases List.mem_append.1 hu with hu | hu
        · exact hv u hu
        · rw [List.mem_singleton] at hu; subst hu; exact hv1)
  obtain ⟨r', l', h1, g1, h2, h3⟩ := key n 0 r [] (by omega) (by simpa using hr) rfl (by simp)
  have e0 : ((0 : Nat) : Int) = 0 := rfl
  rw [e0] at h1
  exact ⟨l', r', by rw [show ((r.1, r.2) : List UInt8 × Int) = r from rfl, h1]; rfl, g1, h2, h3⟩
theorem anyCentres_ok {k : Nat} (hk : k ≤ 200000) {r : List UInt8 × Int} (hr : Good k r) : ∃ l r', M.spec_anyCentres (r.1, r.2) = some (l, (r'.1, r'.2)) ∧ Good (k + 200) r' ∧ NearC l := by
  unfold M.spec_anyCentres
  obtain ⟨n, ⟨p1, p2⟩, h1, g1, hn⟩ := one_ok (by omega) hr (list := [2, 3, 4, 1, 0, 5, 3]) (by simp)
  have hn5 : 0 ≤ n ∧ n ≤ 5 := by simp at hn; omega
  obtain ⟨m, rfl⟩ := Int.eq_ofNat_of_zero_le hn5.1
  obtain ⟨l, ⟨q1, q2⟩, h2, g2, hl, hv⟩ := someVectors_ok (by omega) g1 (n := m) (by omega)
  have hr' : M.spec_reader_one (r.1, r.2) [2, 3, 4, 1, 0, 5, 3] = some ((m : Int), (p1, p2)) := h1
  simp only [hr', Option.bind_some, h2]
  have near0 : NearC l := ⟨by omega, fun c hc => near_of (hv c hc)⟩
  by_cases h0 : 0 < (l.length : Int)
  · obtain ⟨x1, ⟨s1, s2⟩, e1, g3, _⟩ := pick_ok (by omega) g2 12
    simp only [h0, decide_true, cond_true, e1, Option.bind_some]
    by_cases hx : x1 = 0
    · obtain ⟨x2, ⟨t1, t2⟩, e2, g4, a0, a1, _⟩ := pick_ok (by omega) g3 (l.length : Int)
      have a1 := a1 (by omega)
      obtain ⟨u, ⟨w1, w2⟩, e3, g5, hu⟩ := any_ok (by omega) g4
      obtain ⟨e, he, _⟩ := gidx_lt' a0 a1
      simp only [hx, beq_self_eq_true, cond_true, e2, e3, he, Option.bind_some]
      refine ⟨_, (w1, w2), rfl, g5.mono (by omega), by rw [List.length_set]; omega, fun c hc => ?_⟩
      rcases List.mem_or_eq_of_mem_set hc with hc | rfl
      · exact near0.2 c hc
      · exact hu
    · have : (x1 == 0) = false := by simpa using hx
      simp only [this, cond_false, Option.bind_some]
      exact ⟨l, (s1, s2), rfl, g3.mono (by omega), near0⟩
  · simp only [h0, decide_false, cond_false, Option.bind_some]
    exact ⟨l, (q1, q2), rfl, g2.mono (by omega), near0⟩
theorem drawAssign_ok (code : List UInt8) : ∃ cs l, M.spec_DrawAssignItems code = some (cs, l) ∧ NearC cs ∧ NearS l := by
  obtain ⟨⟨r1, r2⟩, h, g⟩ := newReader_ok code
  obtain ⟨cs, ⟨q1, q2⟩, h1, g1, n⟩ := anyCentres_ok (by omega) g
  obtain ⟨l, ⟨w1, w2⟩, h2, _, nl⟩ := anyStore_ok (by omega) g1
  exact ⟨cs, l, by unfold M.spec_DrawAssignItems; simp only [h, h1, h2, Option.bind_some], n, nl⟩

/-! ## Laws -/
theorem SmallC.sub {cs ds : List (List Int)} (h : SmallC cs) (hs : ds.Sublist cs) : SmallC ds := ⟨by have := hs.length_le; have := h.1; omega, fun c hc => h.2 c (hs.subset hc)⟩
/-! ## Items and their centres -/
def okCl (cs : List (List Int)) (l : List Item) : Bool := okC cs && okStore l
theorem okCl_iff {cs : List (List Int)} {l : List Item} : okCl cs l = true ↔ okC cs = true ∧ okStore l = true := by unfold okCl; simp
theorem clusters_ok {cs : List (List Int)} {l : List Item} (s : SmallC cs) (sl : SmallS l) : M.impl_validClusters cs l = some (okCl cs l) := by
  unfold M.impl_validClusters okCl
  simp only [implValidC_ok s, Option.bind_some, sl.impl]
  cases okC cs <;> simp
theorem vec_len {v : List Int} (h : isVec v = true) : v.length < 2000000 := by have := (isVec_iff.1 h).1; omega
/-! ## Spreads -/
def sumZ (l : List Int) : Int := l.foldl (· + ·) 0
theorem foldl_sum (l : List Int) : ∀ a : Int, l.foldl (· + ·) a = a + sumZ l := by
  induction l with
  | nil => intro a; simp [sumZ]
  | cons x r ih => intro a; unfold sumZ; rw [List.foldl_cons, List.foldl_cons, ih, ih (0 + x)]; omega
theorem sumZ_cons (x : Int) (l : List Int) : sumZ (x :: l) = x + sumZ l := by
  show List.foldl (· + ·) (0 + x) l = _
  rw [foldl_sum]; omega
theorem sumZ_snoc (l : List Int) (x : Int) : sumZ (l ++ [x]) = sumZ l + x := by unfold sumZ; rw [List.foldl_append]; rfl
theorem sumZ_bounds {l : List Int} {b : Int} (h : ∀ x ∈ l, 0 ≤ x ∧ x ≤ b) : 0 ≤ sumZ l ∧ sumZ l ≤ l.length * b := by
  induction l with
  | nil => simp [sumZ]
  | cons x r ih =>
    have h1 := h x (by simp)
    have h2 := ih (fun y hy => h y (by simp [hy]))
    rw [sumZ_cons, List.length_cons]
    have : ((r.length + 1 : Nat) : Int) * b = r.length * b + b := by rw [Int.natCast_add, Int.add_mul]; simp
    omega
theorem sumZ_zero {l : List Int} (h : ∀ x ∈ l, x = 0) : sumZ l = 0 := by
  induction l with
  | nil => rfl
  | cons x r ih => rw [sumZ_cons, h x (by simp), ih (fun y hy => h y (by simp [hy]))]; rfl
def nearD (cs : List (List Int)) (x : Item) : Int := cD cs x.2.1 (cen cs x.2.1)
def spreadV (cs : List (List Int)) (l : List Item) : Int := if okCl cs l = true then sumZ (l.map (nearD cs)) else -1
theorem nearD_range {cs : List (List Int)} {x : Item} (h : okC cs = true) (hx : isItem x = true) : 0 ≤ nearD cs x ∧ nearD cs x ≤ 1000000 := by
  have := cD_range (v := x.2.1) h (isItem_vec hx) (cen_is (v := x.2.1) h).1
  unfold nearD; omega
theorem sum_take {cs : List (List Int)} {l : List Item} (ho : okC cs = true) (hl : okStore l = true) (i : Nat) : 0 ≤ sumZ ((l.take i).map (nearD cs)) ∧ sumZ ((l.take i).map (nearD cs)) ≤ 16000000 := by
  obtain ⟨h16, hit, _⟩ := okStore_iff.1 hl
  have := sumZ_bounds (l := (l.take i).map (nearD cs)) (b := 1000000) (fun x hx => by
    obtain ⟨y, hy, rfl⟩ := List.mem_map.1 hx
    exact nearD_range ho (hit y (List.mem_of_mem_take hy)))
  have hle : ((l.take i).map (nearD cs)).length ≤ 16 := by rw [List.length_map, List.length_take]; omega
  omega
theorem take_snoc {cs : List (List Int)} {l : List Item} {i : Nat} (hi : i < l.length) : sumZ ((l.take (i + 1)).map (nearD cs)) = sumZ ((l.take i).map (nearD cs)) + nearD cs l[i] := by
  rw [List.take_succ_eq_append_getElem hi, List.map_append, List.map_cons, List.map_nil, sumZ_snoc]
theorem implSpread_ok {cs : List (List Int)} {l : List Item} (s : SmallC cs) (sl : SmallS l) : M.impl_SpreadOf cs l = some (spreadV cs l) := by
  unfold M.impl_SpreadOf spreadV M.impl_sumOf_impl_Item__impl_SpreadOf_1
  simp only [clusters_ok s sl, Option.bind_some]
  cases h : okCl cs l with
  | false => simp
  | true =>
    obtain ⟨ho, hl⟩ := okCl_iff.1 h
    obtain ⟨h16, hit, _⟩ := okStore_iff.1 hl
    obtain ⟨_, hvec⟩ := okC_iff.1 ho
    simp only [Bool.not_true, cond_false, if_true]
    have hloop := loop_run (R := Int) (f := fun (s2 : (Int) × (Int)) => (bif decide (s2.2 < (l.length : Int)) then
  (gidx l s2.2).bind fun x5 =>
  (M.impl_SpreadOf_1__p_SSint (x5.1, x5.2.1, x5.2.2) cs).bind fun r19 =>
  some (.inl (w64 (s2.1 + r19), w64 (s2.2 + 1)))
 else
  some (.inr s2.1))) (r := sumZ (l.map (nearD cs))) l.length (fun i => (sumZ ((l.take i).map (nearD cs)), (i : Int))) (by
      intro i hi
      have e1 : decide ((i : Int) < (l.length : Int)) = true := decide_eq_true (by omega)
      have hxi := hit _ (List.getElem_mem hi)
      have hx := isItem_vec hxi
      have k1 := (cen_is (v := l[i].2.1) ho).1
      have b1 := sum_take ho hl i
      have b2 := nearD_range ho hxi
      have e3 : w64 (sumZ ((l.take i).map (nearD cs)) + nearD cs l[i]) = sumZ ((l.take (i + 1)).map (nearD cs)) := by
        rw [take_snoc hi, w64_id (by omega) (by omega)]
      have e4 : dist 3 cs[cen cs l[i].2.1] l[i].2.1 = nearD cs l[i] := by unfold nearD; rw [cD_at k1]
      simp only [e1, cond_true, gidx_nat hi, Option.bind_some, M.impl_SpreadOf_1__p_SSint, implCentre_ok s (vec_len hx), centreV_of ho hx, gidx_nat k1, implDist3 (hvec _ (List.getElem_mem k1)) hx, w64_succ (i := i) (by omega), e4, e3]) (by
      have e1 : decide ((l.length : Int) < (l.length : Int)) = false := decide_eq_false (by omega)
      simp only [e1, cond_false, List.take_length])
    simp only [List.take_zero, List.map_nil, Int.cast_ofNat_Int] at hloop
    rw [show sumZ [] = 0 from rfl] at hloop
    rw [hloop]; rfl
theorem specSpread_ok {cs : List (List Int)} {l : List Item} (s : SmallC cs) (sl : SmallS l) : M.spec_SpreadOf cs l = some (spreadV cs l) := by
  unfold M.spec_SpreadOf spreadV okCl
  simp only [specvC_ok s, sl.specv, Option.bind_some]
  cases ho : okC cs with
  | false => simp
  | true =>
    cases hl : okStore l with
    | false => simp
    | true =>
      obtain ⟨h16, hit, _⟩ := okStore_iff.1 hl
      obtain ⟨_, hvec⟩ := okC_iff.1 ho
      simp only [Bool.not_true, cond_false, Option.bind_some, Bool.and_self, if_true]
      have hloop := loop_run (R := Int) (f := fun (s14 : (Int) × (Int)) => (bif decide (s14.2 < (l.length : Int)) then
  (gidx l s14.2).bind fun x17 =>
  (M.spec_centreOf cs x17.2.1).bind fun r27 =>
  (gidx cs r27).bind fun x30 =>
  (gidx l s14.2).bind fun x40 =>
  (M.spec_dist 3 x30 x40.2.1).bind fun r50 =>
  some (.inl (w64 (s14.1 + r50), w64 (s14.2 + 1)))
 else
  some (.inr s14.1))) (r := sumZ (l.map (nearD cs))) l.length (fun i => (sumZ ((l.take i).map (nearD cs)), (i : Int))) (by
        intro i hi
        have e1 : decide ((i : Int) < (l.length : Int)) = true := decide_eq_true (by omega)
        have hxi := hit _ (List.getElem_mem hi)
        have hx := isItem_vec hxi
        have k1 := (cen_is (v := l[i].2.1) ho).1
        have b1 := sum_take ho hl i
        have b2 := nearD_range ho hxi
        have e3 : w64 (sumZ ((l.take i).map (nearD cs)) + nearD cs l[i]) = sumZ ((l.take (i + 1)).map (nearD cs)) := by
          rw [take_snoc hi, w64_id (by omega) (by omega)]
        have e4 : dist 3 cs[cen cs l[i].2.1] l[i].2.1 = nearD cs l[i] := by unfold nearD; rw [cD_at k1]
        simp only [e1, cond_true, gidx_nat hi, Option.bind_some, specc_ok ho hx, gidx_nat k1, specDist_vec kind3 (hvec _ (List.getElem_mem k1)) hx, w64_succ (i := i) (by omega), e4, e3]) (by
        have e1 : decide ((l.length : Int) < (l.length : Int)) = false := decide_eq_false (by omega)
        simp only [e1, cond_false, List.take_length])
      simp only [List.take_zero, List.map_nil, Int.cast_ofNat_Int] at hloop
      rw [show sumZ [] = 0 from rfl] at hloop
      rw [hloop]; rfl
theorem spreadV_neg {cs : List (List Int)} {l : List Item} (h : ¬ spreadV cs l < 0) : okC cs = true ∧ okStore l = true ∧ spreadV cs l = sumZ (l.map (nearD cs)) := by
  unfold spreadV at h ⊢
  split at h
  · rename_i hq
    exact ⟨(okCl_iff.1 hq).1, (okCl_iff.1 hq).2, by rw [if_pos hq]⟩
  · omega
theorem drawSpread_ok (code : List UInt8) : ∃ cs l, M.spec_DrawSpreadOf code = some (cs, l) ∧ NearC cs ∧ NearS l := by
  obtain ⟨cs, l, h, n, nl⟩ := drawAssign_ok code
  exact ⟨cs, l, by unfold M.spec_DrawSpreadOf; simp only [h, Option.bind_some], n, nl⟩
theorem law_SpreadOfCentre (code : List UInt8) : M.laws_FnSpreadOfCentre code = some true := by
  unfold M.laws_FnSpreadOfCentre
  by_cases hc : 1048576 < (code.length : Int)
  · simp [hc]
  obtain ⟨cs, l, h, n, nl⟩ := drawSpread_ok code
  have s := n.small
  have sl := nl.small
  simp only [hc, decide_false, cond_false, h, Option.bind_some, implSpread_ok s sl, specSpread_ok s sl, bne_self_eq_false]
  by_cases h0 : spreadV cs l < 0
  · simp only [h0, decide_true, cond_true, Option.bind_some, beq_self_eq_true]
  obtain ⟨ho, hl, e⟩ := spreadV_neg h0
  by_cases h1 : (l.length : Int) = 0
  · simp only [h0, decide_false, cond_false, h1, beq_self_eq_true, cond_true, Option.bind_some]
  by_cases h4 : 4 < (l.length : Int)
  · have e1 : ((l.length : Int) == 0) = false := by simpa using h1
    simp only [h0, decide_false, cond_false, e1, h4, decide_true, Option.bind_some, cond_true, beq_self_eq_true]
  have e1 : ((l.length : Int) == 0) = false := by simpa using h1
  obtain ⟨h16, hit, _⟩ := okStore_iff.1 hl
  simp only [h0, decide_false, cond_false, e1, h4, Option.bind_some]
  have ho' : okC (l.map (·.2.1)) = true := okC_iff.2 ⟨⟨by simp; omega, by simp; omega⟩, fun c hc => by
    obtain ⟨x, hx, rfl⟩ := List.mem_map.1 hc
    exact isItem_vec (hit x hx)⟩
  refine fold_bind (xs := l) (fun (s : List (List Int)) i => (s, i)) (fun s x => s ++ [x.2.1]) (fun i s => s.length ≤ i) (fun s => s) (s0 := []) (by simp) ?_ ?_ ?_
  · rintro s' i hi hs
    have e1 : decide ((i : Int) < (l.length : Int)) = true := decide_eq_true (by omega)
    simp only [e1, cond_true, gidx_nat hi, Option.bind_some, w64_succ (i := i) (by omega)]
    rw [gapp_ok (by simp; omega)]
    exact ⟨rfl, by simp; omega⟩
  · intro s' _; simp
  · intro _
    rw [foldl_map, List.nil_append]
    simp only [implSpread_ok (okC_small ho') sl, Option.bind_some, Option.some.injEq, beq_iff_eq]
    unfold spreadV
    rw [if_pos (okCl_iff.2 ⟨ho', hl⟩)]
    refine sumZ_zero fun x hx => ?_
    obtain ⟨y, hy, rfl⟩ := List.mem_map.1 hx
    obtain ⟨i, hi, rfl⟩ := List.mem_iff_getElem.1 hy
    have hyv := isItem_vec (hit _ (List.getElem_mem hi))
    have hi' : i < (l.map (·.2.1)).length := by simpa using hi
    obtain ⟨k1, k2, _⟩ := cen_is (v := l[i].2.1) ho'
    have a := k2 i hi'
    have z : cD (l.map (·.2.1)) l[i].2.1 i = 0 := by
      rw [cD_at hi', List.getElem_map]; exact dist_self kind3 hyv
    have b := (cD_range (v := l[i].2.1) ho' hyv k1).1
    unfold nearD
    omega
end Go.Vs
