/- Plain facts of what the functions compute. -/
import Derived.Test.YtgokepoinohioabMoveToSameEng1
import Derived.Test.YtgokepoinohioabMoveToSameLib1
set_option linter.unusedVariables false
set_option linter.unusedSimpArgs false
namespace Go.Vs

theorem w64_nat {n : Nat} (h : n < 9223372036854775808) : w64 (n : Int) = n := w64_id (by omega) (by omega)
theorem gidx_nat {α : Type} {xs : List α} {i : Nat} (h : i < xs.length) : gidx xs (i : Int) = some xs[i] := by
  unfold gidx
  rw [if_pos (by omega)]
  simp [h]
theorem gidx_lt' {α : Type} {xs : List α} {a : Int} (h0 : 0 ≤ a) (h : a < xs.length) : ∃ e, gidx xs a = some e ∧ e ∈ xs := by
  obtain ⟨n, rfl⟩ := Int.eq_ofNat_of_zero_le h0
  have hn : n < xs.length := by omega
  exact ⟨xs[n], gidx_nat hn, List.getElem_mem _⟩
theorem gapp_ok {α : Type} {xs ys : List α} (h : xs.length + ys.length ≤ 2147483648) : gapp xs ys = some (xs ++ ys) := by unfold gapp; rw [if_pos h]
theorem grem_ok {a b : Int} (h : b ≠ 0) : grem a b = some (a.tmod b) := by unfold grem; rw [if_neg h]
theorem gquo_ok {a b : Int} (h : b ≠ 0) : gquo a b = some (w64 (a.tdiv b)) := by unfold gquo; rw [if_neg h]
theorem gslice_ok {α : Type} {xs : List α} {l h : Int} (h0 : 0 ≤ l) (h1 : l ≤ h) (h2 : h ≤ xs.length) : gslice xs l h = some ((xs.take h.toNat).drop l.toNat) := by
  unfold gslice; rw [if_pos ⟨h0, h1, h2⟩]
theorem tmod_range {a b : Int} (ha : 0 ≤ a) (hb : 0 < b) : 0 ≤ a.tmod b ∧ a.tmod b < b := by
  rw [Int.tmod_eq_emod_of_nonneg ha]
  exact ⟨Int.emod_nonneg _ (by omega), Int.emod_lt_of_pos _ hb⟩
theorem tdiv_range {a b : Int} (ha : 0 ≤ a) (hb : 0 < b) : 0 ≤ a.tdiv b ∧ a.tdiv b ≤ a := by
  rw [Int.tdiv_eq_ediv_of_nonneg ha]
  exact ⟨Int.ediv_nonneg ha (by omega), Int.ediv_le_self _ ha⟩
theorem gxor_range {a b : Int} (ha : 0 ≤ a) (ha' : a < 4611686018427387904) (hb : 0 ≤ b) (hb' : b < 4611686018427387904) : 0 ≤ gxor a b ∧ gxor a b < 4611686018427387904 := by
  obtain ⟨m, rfl⟩ := Int.eq_ofNat_of_zero_le ha
  obtain ⟨n, rfl⟩ := Int.eq_ofNat_of_zero_le hb
  have h1 : (BitVec.ofInt 64 (m : Int) ^^^ BitVec.ofInt 64 (n : Int)).toNat = m ^^^ n := by
    rw [BitVec.toNat_xor]
    have e : ∀ k : Nat, k < 4611686018427387904 → (BitVec.ofInt 64 (k : Int)).toNat = k := by
      intro k hk
      simp only [BitVec.toNat_ofInt]
      omega
    rw [e m (by omega), e n (by omega)]
  have h2 : m ^^^ n < 2 ^ 62 := Nat.xor_lt_two_pow (by omega) (by omega)
  have h3 : (2 : Nat) ^ 62 = 4611686018427387904 := by decide
  unfold gxor
  rw [h1]
  have : w64 ((m ^^^ n : Nat) : Int) = (m ^^^ n : Nat) := w64_nat (by omega)
  show 0 ≤ w64 _ ∧ w64 _ < _
  rw [this]
  omega
/-- A loop that looks at each element, and leaves at the first that fails. -/
theorem loop_all {α R : Type} {xs : List α} {P : α → Bool} {r : R} {f : Int → Option (Int ⊕ (Unit ⊕ R))} (hs : ∀ i (h : i < xs.length), f (i : Int) = some (if P xs[i] then .inl ((i : Int) + 1) else .inr (.inr r))) (he : f (xs.length : Int) = some (.inr (.inl ()))) :
    loopM f 0 = some (if xs.all P then .inl () else .inr r) := by
  have key : ∀ m k : Nat, k + m = xs.length → loopM f (k : Int) = some (if (xs.drop k).all P then .inl () else .inr r) := by
    intro m
    induction m with
    | zero =>
      intro k hk
      have : k = xs.length := by omega
      subst this
      rw [loopM_eq, he]; simp [selim]
    | succ m ih =>
      intro k hk
      have hlt : k < xs.length := by omega
      rw [loopM_eq, hs k hlt, List.drop_eq_getElem_cons hlt]
      by_cases hp : P xs[k] = true
      · rw [if_pos hp]
        have := ih (k + 1) (by omega)
        simp only [Int.natCast_add, Int.cast_ofNat_Int] at this
        simp only [List.all_cons, hp, Bool.true_and, selim, this, Option.bind_some]
      · rw [if_neg hp]
        simp only [List.all_cons, Bool.not_eq_true] at hp ⊢
        simp only [hp, Bool.false_and, selim, Option.bind_some]; rfl
  have := key xs.length 0 (by omega)
  simpa using this
end Go.Vs

namespace Go.Vs

/-- A reader that has been asked at most k times. -/
def Good (k : Nat) (r : List UInt8 × Int) : Prop := r.1.length ≤ 2000 ∧ 0 ≤ r.2 ∧ r.2 ≤ k
theorem Good.mono {k m : Nat} {r : List UInt8 × Int} (h : Good k r) (hm : k ≤ m) : Good m r := ⟨h.1, h.2.1, by have := h.2.2; omega⟩

theorem pick_ok {k : Nat} (hk : k ≤ 1000000) {r : List UInt8 × Int} (hr : Good k r) (n : Int) :
    ∃ x r', M.spec_reader_pick r n = some (x, r') ∧ Good (k + 1) r' ∧ 0 ≤ x ∧ (1 ≤ n → x < n) ∧ (n < 1 → x = 0) := by
  obtain ⟨b, p⟩ := r
  obtain ⟨h1, h2, h3⟩ := hr
  simp only at h1 h2 h3
  have e1 : w64 (p + 1) = p + 1 := w64_id (by omega) (by omega)
  have e2 : w64 (p + 1 - 1) = p := by rw [w64_id (by omega) (by omega)]; omega
  have hgood : Good (k + 1) (b, p + 1) := ⟨h1, by simp only; omega, by simp only; omega⟩
  unfold M.spec_reader_pick
  simp only [e1, e2]
  by_cases hn : n < 1
  · refine ⟨0, (b, p + 1), ?_, hgood, by omega, fun h => by omega, fun _ => rfl⟩
    simp [hn]
  · by_cases hb : b.length = 0
    · refine ⟨0, (b, p + 1), ?_, hgood, by omega, fun h => by omega, fun _ => rfl⟩
      simp [hn, hb]
    · have hbl : (b.length : Int) ≠ 0 := by omega
      have hbb : ((b.length : Int) == 0) = false := by simpa using hb
      simp only [hn, decide_false, cond_false, hbb, Option.bind_some]
      by_cases hp : p < (b.length : Int)
      · obtain ⟨e, he, _⟩ := gidx_lt' (xs := b) h2 hp
        have hE : w64 (e.toNat : Int) = e.toNat := w64_nat (by have := e.toNat_lt; omega)
        have hr := tmod_range (a := (e.toNat : Int)) (b := n) (by omega) (by omega)
        refine ⟨_, (b, p + 1), ?_, hgood, hr.1, fun _ => hr.2, fun h => h.elim⟩
        simp only [hp, decide_true, cond_true, he, Option.bind_some, hE, grem_ok (show n ≠ 0 by omega)]
      · simp only [hp, decide_false, cond_false]
        have hbp : 0 < (b.length : Int) := by omega
        have r1 := tmod_range (a := p) h2 hbp
        have e7 : w64 (w64 (p * 7) + 3) = p * 7 + 3 := by rw [w64_id (n := p * 7) (by omega) (by omega), w64_id (by omega) (by omega)]
        have r2 := tmod_range (a := p * 7 + 3) (b := (b.length : Int)) (by omega) hbp
        obtain ⟨x, hx, _⟩ := gidx_lt' (xs := b) r1.1 r1.2
        obtain ⟨y, hy, _⟩ := gidx_lt' (xs := b) r2.1 r2.2
        have hX : (x.toNat : Int) < 256 := by have := x.toNat_lt; omega
        have hY : (y.toNat : Int) < 256 := by have := y.toNat_lt; omega
        have r3 := tdiv_range (a := p) (b := (b.length : Int)) h2 hbp
        simp only [grem_ok hbl, Option.bind_some, hx, e7, hy, gquo_ok hbl]
        generalize hq : w64 (p.tdiv (b.length : Int)) = q
        have hq' : 0 ≤ q ∧ q ≤ 1000000 := by rw [← hq, w64_id (by omega) (by omega)]; omega
        have eX : w64 (x.toNat : Int) = x.toNat := w64_id (by omega) (by omega)
        have eY : w64 (y.toNat : Int) = y.toNat := w64_id (by omega) (by omega)
        simp only [eX, eY]
        have eX' : w64 ((x.toNat : Int) * 131) = x.toNat * 131 := w64_id (by omega) (by omega)
        have eY' : w64 ((y.toNat : Int) * 1117) = y.toNat * 1117 := w64_id (by omega) (by omega)
        have eP : w64 (p * 29) = p * 29 := w64_id (by omega) (by omega)
        have eQ : w64 (q * 53) = q * 53 := w64_id (by omega) (by omega)
        simp only [eX', eY', eP, eQ]
        have eA : w64 ((x.toNat : Int) * 131 + y.toNat * 1117) = x.toNat * 131 + y.toNat * 1117 := w64_id (by omega) (by omega)
        simp only [eA]
        have eB : w64 ((x.toNat : Int) * 131 + y.toNat * 1117 + p * 29) = x.toNat * 131 + y.toNat * 1117 + p * 29 := w64_id (by omega) (by omega)
        simp only [eB]
        have eC : w64 ((x.toNat : Int) * 131 + y.toNat * 1117 + p * 29 + q * 53) = x.toNat * 131 + y.toNat * 1117 + p * 29 + q * 53 := w64_id (by omega) (by omega)
        simp only [eC]
        generalize hZ : (x.toNat : Int) * 131 + y.toNat * 1117 + p * 29 + q * 53 = Z
        have hZ' : 0 ≤ Z ∧ Z ≤ 1000000000 := by omega
        have r4 := tdiv_range (a := Z) (b := 64) hZ'.1 (by omega)
        have eD : w64 (Z.tdiv 64) = Z.tdiv 64 := w64_id (by omega) (by omega)
        rw [eD]
        have r5 := gxor_range (a := Z) (b := Z.tdiv 64) (by omega) (by omega) (by omega) (by omega)
        have r6 := tmod_range (a := gxor Z (Z.tdiv 64)) (b := n) r5.1 (by omega)
        refine ⟨_, (b, p + 1), ?_, hgood, r6.1, fun _ => r6.2, fun h => h.elim⟩
        simp only [grem_ok (show n ≠ 0 by omega), Option.bind_some]

theorem one_ok {k : Nat} (hk : k ≤ 1000000) {r : List UInt8 × Int} (hr : Good k r) {list : List Int} (hl : list ≠ []) :
    ∃ x r', M.spec_reader_one r list = some (x, r') ∧ Good (k + 1) r' ∧ x ∈ list := by
  obtain ⟨x, r', h1, h2, h3, h4, _⟩ := pick_ok hk hr (list.length : Int)
  have hlen : 1 ≤ (list.length : Int) := by
    have : list.length ≠ 0 := by simpa using hl
    omega
  obtain ⟨e, he, hm⟩ := gidx_lt' h3 (h4 hlen)
  refine ⟨e, r', ?_, h2, hm⟩
  unfold M.spec_reader_one
  simp only [h1, Option.bind_some, he]

theorem coord_ok {k : Nat} (hk : k ≤ 900000) {r : List UInt8 × Int} (hr : Good k r) :
    ∃ x r', M.spec_someCoord r = some (x, r') ∧ Good (k + 3) r' ∧ -100 ≤ x ∧ x ≤ 100 := by
  obtain ⟨x1, r1, h1, g1, a1, b1, _⟩ := pick_ok (by omega) hr 201
  obtain ⟨x2, r2, h2, g2, a2, b2, _⟩ := pick_ok (by omega) g1 21
  have b1 := b1 (by omega)
  have b2 := b2 (by omega)
  have e1 : w64 (x1 - 100) = x1 - 100 := w64_id (by omega) (by omega)
  have e2 : w64 (x2 - 10) = x2 - 10 := w64_id (by omega) (by omega)
  obtain ⟨x3, r3, h3, g3, m3⟩ := one_ok (by omega) g2 (list := [0, 1, -1, 5, -7, 10, 3, 100, -100, x1 - 100, x2 - 10]) (by simp)
  refine ⟨x3, r3, ?_, g3, ?_⟩
  · unfold M.spec_someCoord
    simp only [h1, Option.bind_some, h2, e1, e2, h3]
  · simp only [List.mem_cons, List.not_mem_nil, or_false] at m3
    omega

/-- A valid vector. -/
def isVec (v : List Int) : Bool := decide (v.length = 4) && v.all fun x => decide (-100 ≤ x) && decide (x ≤ 100)
theorem isVec_iff {v : List Int} : isVec v = true ↔ v.length = 4 ∧ ∀ x ∈ v, -100 ≤ x ∧ x ≤ 100 := by
  unfold isVec; simp
theorem isVec_four {v : List Int} (h : isVec v = true) : ∃ a b c d, v = [a, b, c, d] ∧ (-100 ≤ a ∧ a ≤ 100) ∧ (-100 ≤ b ∧ b ≤ 100) ∧ (-100 ≤ c ∧ c ≤ 100) ∧ (-100 ≤ d ∧ d ≤ 100) := by
  obtain ⟨h1, h2⟩ := isVec_iff.1 h
  match v, h1 with
  | [a, b, c, d], _ => exact ⟨a, b, c, d, rfl, h2 a (by simp), h2 b (by simp), h2 c (by simp), h2 d (by simp)⟩

theorem vector_ok {k : Nat} (hk : k ≤ 800000) {r : List UInt8 × Int} (hr : Good k r) :
    ∃ v r', M.spec_someVector r = some (v, r') ∧ Good (k + 12) r' ∧ isVec v = true := by
  obtain ⟨x1, r1, h1, g1, a1, b1⟩ := coord_ok (by omega) hr
  obtain ⟨x2, r2, h2, g2, a2, b2⟩ := coord_ok (by omega) g1
  obtain ⟨x3, r3, h3, g3, a3, b3⟩ := coord_ok (by omega) g2
  obtain ⟨x4, r4, h4, g4, a4, b4⟩ := coord_ok (by omega) g3
  refine ⟨[x1, x2, x3, x4], r4, ?_, g4, isVec_iff.2 ⟨rfl, by simp only [List.mem_cons, List.not_mem_nil, or_false]; rintro x (rfl | rfl | rfl | rfl) <;> omega⟩⟩
  have e : ∀ n : Nat, n < 10 → w64 ((n : Int) + 1) = (n : Int) + 1 := fun n hn => w64_id (by omega) (by omega)
  have e0 : w64 ((0 : Int) + 1) = 1 := e 0 (by omega)
  have e1 : w64 ((1 : Int) + 1) = 2 := e 1 (by omega)
  have e2 : w64 ((2 : Int) + 1) = 3 := e 2 (by omega)
  have e3 : w64 ((3 : Int) + 1) = 4 := e 3 (by omega)
  have ga : ∀ (xs : List Int) (x : Int), xs.length < 10 → gapp xs [x] = some (xs ++ [x]) := fun xs x hx => gapp_ok (by simp; omega)
  unfold M.spec_someVector
  rw [loopM_eq]
  simp only [show decide ((0 : Int) < 4) = true from rfl, cond_true, h1, Option.bind_some, ga [] x1 (by simp), selim, e0, List.nil_append]
  rw [loopM_eq]
  simp only [show decide ((1 : Int) < 4) = true from rfl, cond_true, h2, Option.bind_some, ga [x1] x2 (by simp), selim, e1, List.cons_append, List.nil_append]
  rw [loopM_eq]
  simp only [show decide ((2 : Int) < 4) = true from rfl, cond_true, h3, Option.bind_some, ga [x1, x2] x3 (by simp), selim, e2, List.cons_append, List.nil_append]
  rw [loopM_eq]
  simp only [show decide ((3 : Int) < 4) = true from rfl, cond_true, h4, Option.bind_some, ga [x1, x2, x3] x4 (by simp), selim, e3, List.cons_append, List.nil_append]
  rw [loopM_eq]
  simp only [show decide ((4 : Int) < 4) = false from rfl, cond_false, Option.bind_some, selim]
end Go.Vs
namespace Go.Vs
/-- A vector that may be drawn. -/
def Near (v : List Int) : Prop := v.length ≤ 5 ∧ ∀ x ∈ v, -101 ≤ x ∧ x ≤ 101
theorem near_of {v : List Int} (h : isVec v = true) : Near v := by
  obtain ⟨h1, h2⟩ := isVec_iff.1 h
  exact ⟨by omega, fun x hx => by have := h2 x hx; omega⟩
theorem copy_ok {v : List Int} (h : v.length ≤ 1000000) : M.spec_copyInts v = some v := by
  unfold M.spec_copyInts
  rw [gapp_ok (by simp; omega)]; rfl
theorem spoil_ok {k : Nat} (hk : k ≤ 700000) {r : List UInt8 × Int} (hr : Good k r) {v : List Int} (hv : isVec v = true) :
    ∃ u r', M.spec_reader_spoil r v 101 = some (u, r') ∧ Good (k + 3) r' ∧ Near u := by
  obtain ⟨hl, hb⟩ := isVec_iff.1 hv
  obtain ⟨x1, r1, h1, g1, a1, b1, _⟩ := pick_ok (by omega) hr 20
  unfold M.spec_reader_spoil
  simp only [copy_ok (v := v) (by omega), Option.bind_some, h1]
  by_cases c0 : x1 = 0
  · refine ⟨v ++ [101], r1, ?_, g1.mono (by omega), ?_⟩
    · simp [c0, gapp_ok (xs := v) (ys := [101]) (by simp; omega)]
    · refine ⟨by simp; omega, fun x hx => ?_⟩
      rcases List.mem_append.1 hx with h | h
      · have := hb x h; omega
      · simp at h; omega
  · have e0 : (x1 == 0) = false := by simpa using c0
    simp only [e0, cond_false]
    have hpos : decide (0 < (v.length : Int)) = true := by simp; omega
    have hp' : 0 < v.length := by omega
    by_cases c1 : x1 = 1
    · refine ⟨v.drop 1, r1, ?_, g1.mono (by omega), by simp; omega, fun x hx => ?_⟩
      · have : gslice v 1 (v.length : Int) = some (v.drop 1) := by
          rw [gslice_ok (by omega) (by omega) (by omega)]; simp
        simp [c1, hp', this]
      · have := hb x (List.mem_of_mem_drop hx); omega
    · have e1 : (x1 == 1) = false := by simpa using c1
      simp only [e1, cond_false]
      by_cases c2 : x1 = 2
      · obtain ⟨i, r2, h2, g2, a2, b2, _⟩ := pick_ok (by omega) g1 (v.length : Int)
        obtain ⟨y, r3, h3, g3, m3⟩ := one_ok (by omega) g2 (list := [-1, 101, 0, 1]) (by simp)
        have b2 := b2 (by omega)
        obtain ⟨z, hz, _⟩ := gidx_lt' (xs := v) a2 b2
        refine ⟨v.set i.toNat y, r3, ?_, g3, by simp; omega, fun x hx => ?_⟩
        · simp [c2, hp', h2, h3, hz]
        · rcases List.mem_or_eq_of_mem_set hx with h | h
          · have := hb x h; omega
          · subst h
            simp only [List.mem_cons, List.not_mem_nil, or_false] at m3
            omega
      · have e2 : (x1 == 2) = false := by simpa using c2
        exact ⟨v, r1, by simp [e2], g1.mono (by omega), near_of hv⟩
theorem any_ok {k : Nat} (hk : k ≤ 600000) {r : List UInt8 × Int} (hr : Good k r) :
    ∃ v r', M.spec_anyVector r = some (v, r') ∧ Good (k + 16) r' ∧ Near v := by
  obtain ⟨x1, r1, h1, g1, a1, b1, _⟩ := pick_ok (by omega) hr 10
  obtain ⟨v, r2, h2, g2, hv⟩ := vector_ok (by omega) g1
  unfold M.spec_anyVector
  simp only [h1, Option.bind_some]
  by_cases c0 : x1 = 0
  · obtain ⟨u, r3, h3, g3, hu⟩ := spoil_ok (by omega) g2 hv
    exact ⟨u, r3, by simp [c0, h2, h3], g3, hu⟩
  · have e0 : (x1 == 0) = false := by simpa using c0
    exact ⟨v, r2, by simp [e0, h2], g2.mono (by omega), near_of hv⟩
theorem newReader_ok (code : List UInt8) : ∃ r, M.spec_newReader code = some r ∧ Good 0 r := by
  unfold M.spec_newReader
  by_cases h : 2000 < (code.length : Int)
  · refine ⟨(code.take 2000, 0), ?_, by simp; omega, by simp, by simp⟩
    have : gslice code 0 2000 = some (code.take 2000) := by
      rw [gslice_ok (by omega) (by omega) (by omega)]; simp
    simp [h, this]
  · exact ⟨(code, 0), by simp [h], by simp only; omega, by simp, by simp⟩

theorem implCoords_ok (v : List Int) (hb : v.length < 2000000) : M.impl_validCoords v = some (v.all fun x => decide (-100 ≤ x) && decide (x ≤ 100)) := by
  unfold M.impl_validCoords
  rw [loop_all (xs := v) (P := fun x => decide (-100 ≤ x) && decide (x ≤ 100)) (r := false)]
  · by_cases ha : (v.all fun x => decide (-100 ≤ x) && decide (x ≤ 100)) = true
    · simp only [ha, if_true, Option.bind_some, selim]
    · simp only [Bool.not_eq_true] at ha
      simp only [ha]; simp [selim]
  · intro i h
    have e1 : decide ((i : Int) < (v.length : Int)) = true := by simpa using h
    have e2 : w64 ((i : Int) + 1) = (i : Int) + 1 := w64_id (by omega) (by omega)
    simp only [e1, cond_true, gidx_nat h, Option.bind_some, e2]
    by_cases c1 : v[i] < -100
    · have c2 : ¬ (-100 ≤ v[i]) := by omega
      simp [c1, c2]
    · by_cases c3 : 100 < v[i]
      · have c4 : ¬ (v[i] ≤ 100) := by omega
        simp [c1, c3, c4]
      · simp [c1, c3, show -100 ≤ v[i] by omega, show v[i] ≤ 100 by omega]
  · simp
theorem impl_valid (v : List Int) (hb : v.length < 2000000) : M.impl_ValidVector v = some (isVec v) := by
  unfold M.impl_ValidVector
  simp only [implCoords_ok v hb, Option.bind_some]
  unfold isVec
  by_cases hl : v.length = 4
  · have e : ((v.length : Int) == 4) = true := by simp; omega
    rw [e, cond_true, decide_eq_true hl, Bool.true_and]
  · have e : ((v.length : Int) == 4) = false := by simp; omega
    rw [e, cond_false, decide_eq_false hl, Bool.false_and]
theorem spec_inR (n l h : Int) : M.spec_inRange n l h = some (decide (l ≤ n) && decide (n ≤ h)) := by
  unfold M.spec_inRange
  by_cases h1 : l ≤ n <;> simp [h1]
theorem spec_all (v : List Int) (l h : Int) (hb : v.length < 2000000) : M.spec_allIn v l h = some (v.all fun x => decide (l ≤ x) && decide (x ≤ h)) := by
  unfold M.spec_allIn
  rw [loop_all (xs := v) (P := fun x => decide (l ≤ x) && decide (x ≤ h)) (r := false)]
  · by_cases ha : (v.all fun x => decide (l ≤ x) && decide (x ≤ h)) = true
    · simp only [ha, if_true, Option.bind_some, selim]
    · simp only [Bool.not_eq_true] at ha
      simp [ha, selim]
  · intro i hi
    have e1 : decide ((i : Int) < (v.length : Int)) = true := by simpa using hi
    have e2 : w64 ((i : Int) + 1) = (i : Int) + 1 := w64_id (by omega) (by omega)
    simp only [e1, cond_true, gidx_nat hi, Option.bind_some, e2, spec_inR]
    cases (decide (l ≤ v[i]) && decide (v[i] ≤ h)) <;> rfl
  · simp
theorem spec_isVec (v : List Int) (hb : v.length < 2000000) : M.spec_isVector v = some (isVec v) := by
  unfold M.spec_isVector
  by_cases hl : v.length = 4
  · have e : ((v.length : Int) == 4) = true := by simp; omega
    simp [e, spec_all v _ _ hb, isVec, hl]
  · have e : ((v.length : Int) == 4) = false := by simp; omega
    simp [e, isVec, hl]
end Go.Vs

namespace Go.Vs

end Go.Vs

namespace Go.Vs

theorem loop4 {S R : Type} {f : S → Option (S ⊕ R)} {s0 s1 s2 s3 s4 : S} {r : R} (h0 : f s0 = some (.inl s1)) (h1 : f s1 = some (.inl s2)) (h2 : f s2 = some (.inl s3)) (h3 : f s3 = some (.inl s4)) (h4 : f s4 = some (.inr r)) : loopM f s0 = some r := by
  rw [loopM_eq, h0, Option.bind_some, selim, loopM_eq, h1, Option.bind_some, selim, loopM_eq, h2, Option.bind_some, selim, loopM_eq, h3, Option.bind_some, selim, loopM_eq, h4]; rfl
theorem gi0 {α : Type} {a : α} {l : List α} : gidx (a :: l) 0 = some a := gidx_nat (i := 0) (by simp)
theorem gi1 {α : Type} {a b : α} {l : List α} : gidx (a :: b :: l) 1 = some b := gidx_nat (i := 1) (by simp)
theorem gi2 {α : Type} {a b c : α} {l : List α} : gidx (a :: b :: c :: l) 2 = some c := gidx_nat (i := 2) (by simp)
theorem gi3 {α : Type} {a b c d : α} {l : List α} : gidx (a :: b :: c :: d :: l) 3 = some d := gidx_nat (i := 3) (by simp)
theorem i01 : w64 ((0 : Int) + 1) = 1 := w64_id (by omega) (by omega)
theorem i12 : w64 ((1 : Int) + 1) = 2 := w64_id (by omega) (by omega)
theorem i23 : w64 ((2 : Int) + 1) = 3 := w64_id (by omega) (by omega)
theorem i34 : w64 ((3 : Int) + 1) = 4 := w64_id (by omega) (by omega)
theorem d04 : decide ((0 : Int) < 4) = true := rfl
theorem d14 : decide ((1 : Int) < 4) = true := rfl
theorem d24 : decide ((2 : Int) < 4) = true := rfl
theorem d34 : decide ((3 : Int) < 4) = true := rfl
theorem d44 : decide ((4 : Int) < 4) = false := rfl
theorem l4 {α : Type} {a b c d : α} : (([a, b, c, d] : List α).length : Int) = 4 := rfl

/-- A coordinate. -/
def Co (x : Int) : Prop := -100 ≤ x ∧ x ≤ 100
end Go.Vs

namespace Go.Vs

theorem isVec_cut {v : List Int} (h : isVec v = true) : ∃ a b c d, v = [a, b, c, d] ∧ Co a ∧ Co b ∧ Co c ∧ Co d := isVec_four h

theorem equalInts_ok {a b : List Int} (ha : a.length < 2000000) : M.laws_equalInts a b = some (decide (a = b)) := by
  unfold M.laws_equalInts
  by_cases hl : a.length = b.length
  · have e : ((a.length : Int) != (b.length : Int)) = false := by simp; omega
    simp only [e, cond_false]
    rw [loop_all (xs := a.zip b) (P := fun p => p.1 == p.2) (r := false)]
    · by_cases h : a = b
      · subst h
        have : (a.zip a).all (fun p => p.1 == p.2) = true := by
          rw [List.all_eq_true]; intro p hp
          obtain ⟨i, hi, rfl⟩ := List.mem_iff_getElem.1 hp
          simp
        rw [if_pos this]; simp [selim]
      · have : ¬ (a.zip b).all (fun p => p.1 == p.2) = true := by
          intro hh; apply h
          apply List.ext_getElem hl
          intro i h1 h2
          rw [List.all_eq_true] at hh
          have := hh (a[i], b[i]) (List.mem_iff_getElem.2 ⟨i, by simp; omega, by simp⟩)
          simpa using this
        rw [if_neg this]; simp [selim, h]
    · intro i hi
      have hi1 : i < a.length := by simp at hi; omega
      have hi2 : i < b.length := by simp at hi; omega
      have e1 : decide ((i : Int) < (a.length : Int)) = true := by simpa using hi1
      have e2 : w64 ((i : Int) + 1) = (i : Int) + 1 := w64_id (by omega) (by omega)
      simp only [e1, cond_true, gidx_nat hi1, gidx_nat hi2, Option.bind_some, e2, List.getElem_zip]
      by_cases hc : a[i] = b[i]
      · simp [hc]
      · have hb : (a[i] == b[i]) = false := by simpa using hc
        have hb' : (a[i] != b[i]) = true := by simpa using hc
        simp [hb, hb']
    · have : (a.zip b).length = a.length := by simp; omega
      rw [this]; simp
  · have e : ((a.length : Int) != (b.length : Int)) = true := by simp; omega
    have : a ≠ b := fun h => hl (by rw [h])
    simp [e, this]

/-- Gaps of two vectors. -/
structure Gaps (g0 g1 g2 g3 : Int) : Prop where
  n0 : 0 ≤ g0
  n1 : 0 ≤ g1
  n2 : 0 ≤ g2
  n3 : 0 ≤ g3
  m0 : g0 ≤ 200
  m1 : g1 ≤ 200
  m2 : g2 ≤ 200
  m3 : g3 ≤ 200
end Go.Vs

namespace Go.Vs

end Go.Vs

namespace Go.Vs

theorem down_eq {n m : Int} (hm : 0 < m) : (if n.tmod m < 0 then n.tdiv m - 1 else n.tdiv m) = n / m := by
  have e := Int.mul_tdiv_add_tmod n m
  have h1 : n.tmod m < m := Int.tmod_lt_of_pos n hm
  have h2 : -m < n.tmod m := by
    have := Int.lt_tmod_of_pos n hm
    omega
  by_cases c : n.tmod m < 0
  · rw [if_pos c]
    have : n = (n.tmod m + m) + (n.tdiv m - 1) * m := by
      rw [Int.sub_mul, Int.mul_comm (n.tdiv m) m]; omega
    conv => rhs; rw [this]
    rw [Int.add_mul_ediv_right _ _ (by omega), Int.ediv_eq_zero_of_lt (by omega) (by omega)]; omega
  · rw [if_neg c]
    have : n = n.tmod m + n.tdiv m * m := by
      rw [Int.mul_comm (n.tdiv m) m]; omega
    conv => rhs; rw [this]
    rw [Int.add_mul_ediv_right _ _ (by omega), Int.ediv_eq_zero_of_lt (by omega) (by omega)]; omega
theorem tdiv_abs {n m : Int} (hm : 0 < m) (h1 : -1000000000 ≤ n) (h2 : n ≤ 1000000000) : -1000000000 ≤ n.tdiv m ∧ n.tdiv m ≤ 1000000000 := by
  rcases Int.le_total 0 n with h | h
  · have := tdiv_range h hm; omega
  · have := tdiv_range (a := -n) (b := m) (by omega) hm
    rw [Int.neg_tdiv] at this; omega
theorem implDown_ok {n m : Int} (hm : 0 < m) (h1 : -1000000000 ≤ n) (h2 : n ≤ 1000000000) : M.impl_divideDown n m = some (n / m) := by
  have t := tdiv_abs hm h1 h2
  unfold M.impl_divideDown
  rw [gquo_ok (by omega), grem_ok (by omega), w64_id (by omega) (by omega)]
  simp only [Option.bind_some]
  rw [← down_eq hm]
  by_cases c : n.tmod m < 0
  · rw [if_pos c, w64_id (by omega) (by omega)]; simp [c]
  · rw [if_neg c]; simp [c]
theorem specDown_ok {n m : Int} (hm : 0 < m) (h1 : -1000000000 ≤ n) (h2 : n ≤ 1000000000) : M.spec_floorDiv n m = some (n / m) := implDown_ok hm h1 h2

/-- A coordinate that moves. -/
def mv (p a b : Int) : Int := a + (b - a) * p / 1000
theorem mv_prod {p a b : Int} (ha : Co a) (hb : Co b) (h0 : 0 ≤ p) (h1 : p ≤ 1000) : (0 ≤ b - a → 0 ≤ (b - a) * p ∧ (b - a) * p ≤ (b - a) * 1000) ∧ (b - a ≤ 0 → (b - a) * 1000 ≤ (b - a) * p ∧ (b - a) * p ≤ 0) := by
  refine ⟨fun h => ⟨Int.mul_nonneg h h0, Int.mul_le_mul_of_nonneg_left h1 h⟩, fun h => ⟨Int.mul_le_mul_of_nonpos_left h h1, ?_⟩⟩
  exact Int.mul_nonpos_of_nonpos_of_nonneg h h0
theorem mv_between {p a b : Int} (ha : Co a) (hb : Co b) (h0 : 0 ≤ p) (h1 : p ≤ 1000) : min a b ≤ mv p a b ∧ mv p a b ≤ max a b := by
  have h := mv_prod ha hb h0 h1
  unfold mv
  rcases Int.le_total 0 (b - a) with c | c
  · have := h.1 c; generalize (b - a) * p = q at *; omega
  · have := h.2 c; generalize (b - a) * p = q at *; omega
theorem mv_co {p a b : Int} (ha : Co a) (hb : Co b) (h0 : 0 ≤ p) (h1 : p ≤ 1000) : Co (mv p a b) := by
  have := mv_between ha hb h0 h1
  unfold Co at *; omega
/-- What MoveTo answers. -/
def moveTo (a b : List Int) (p : Int) : List Int :=
  if isVec a = true ∧ isVec b = true ∧ 0 ≤ p ∧ p ≤ 1000 then [mv p (a.getD 0 0) (b.getD 0 0), mv p (a.getD 1 0) (b.getD 1 0), mv p (a.getD 2 0) (b.getD 2 0), mv p (a.getD 3 0) (b.getD 3 0)] else []

theorem mv_step {p a b : Int} (ha : Co a) (hb : Co b) (h0 : 0 ≤ p) (h1 : p ≤ 1000) : w64 (w64 (b - a) * p) = (b - a) * p ∧ -1000000000 ≤ (b - a) * p ∧ (b - a) * p ≤ 1000000000 ∧ w64 (a + (b - a) * p / 1000) = mv p a b := by
  have h := mv_prod ha hb h0 h1
  have m := mv_co ha hb h0 h1
  have ha' := ha
  have hb' := hb
  unfold Co at ha' hb'
  have e : w64 (b - a) = b - a := w64_id (by omega) (by omega)
  have hq : -1000000000 ≤ (b - a) * p ∧ (b - a) * p ≤ 1000000000 := by
    rcases Int.le_total 0 (b - a) with c | c
    · have := h.1 c; omega
    · have := h.2 c; omega
  refine ⟨by rw [e]; exact w64_id (by omega) (by omega), hq.1, hq.2, ?_⟩
  unfold Co at m
  have m' : -100 ≤ a + (b - a) * p / 1000 ∧ a + (b - a) * p / 1000 ≤ 100 := m
  rw [w64_id (by omega) (by omega)]; rfl

theorem implMove_ok {a b : List Int} (ha : a.length < 2000000) (hb : b.length < 2000000) (p : Int) : M.impl_MoveTo a b p = some (moveTo a b p) := by
  unfold M.impl_MoveTo
  simp only [impl_valid a ha, Option.bind_some]
  by_cases va : isVec a = true
  · simp only [va, Bool.not_true, cond_false, impl_valid b hb, Option.bind_some]
    by_cases vb : isVec b = true
    · simp only [vb, Bool.not_true, cond_false]
      by_cases h0 : p < 0
      · simp [h0, moveTo]; intro _ _; omega
      · simp only [h0, decide_false, cond_false, Option.bind_some]
        by_cases h1 : 1000 < p
        · simp [h1, moveTo]
        · have h0' : 0 ≤ p := by omega
          have h1' : p ≤ 1000 := by omega
          simp only [h1, decide_false, cond_false, moveTo, va, vb, h0', h1', and_self, if_true]
          obtain ⟨x0, x1, x2, x3, rfl, c0, c1, c2, c3⟩ := isVec_cut va
          obtain ⟨y0, y1, y2, y3, rfl, e0, e1, e2, e3⟩ := isVec_cut vb
          obtain ⟨p0, q0, r0, s0⟩ := mv_step c0 e0 h0' h1'
          obtain ⟨p1, q1, r1, s1⟩ := mv_step c1 e1 h0' h1'
          obtain ⟨p2, q2, r2, s2⟩ := mv_step c2 e2 h0' h1'
          obtain ⟨p3, q3, r3, s3⟩ := mv_step c3 e3 h0' h1'
          rw [loop4 (s1 := ([mv p x0 y0, 0, 0, 0], 1)) (s2 := ([mv p x0 y0, mv p x1 y1, 0, 0], 2)) (s3 := ([mv p x0 y0, mv p x1 y1, mv p x2 y2, 0], 3)) (s4 := ([mv p x0 y0, mv p x1 y1, mv p x2 y2, mv p x3 y3], 4)) (r := [mv p x0 y0, mv p x1 y1, mv p x2 y2, mv p x3 y3])]
          · rfl
          · simp only [show List.replicate 4 (0 : Int) = [0, 0, 0, 0] from rfl, d04, gi0, i01, cond_true, Option.bind_some, p0, implDown_ok (show (0 : Int) < 1000 by omega) q0 r0, s0]; rfl
          · simp only [d14, gi1, i12, cond_true, Option.bind_some, p1, implDown_ok (show (0 : Int) < 1000 by omega) q1 r1, s1]; rfl
          · simp only [d24, gi2, i23, cond_true, Option.bind_some, p2, implDown_ok (show (0 : Int) < 1000 by omega) q2 r2, s2]; rfl
          · simp only [d34, gi3, i34, cond_true, Option.bind_some, p3, implDown_ok (show (0 : Int) < 1000 by omega) q3 r3, s3]; rfl
          · simp only [d44, cond_false]
    · have vb' : isVec b = false := by simpa using vb
      simp [vb', moveTo]
  · have va' : isVec a = false := by simpa using va
    simp [va', moveTo]
theorem specMove_ok {a b : List Int} (ha : a.length < 2000000) (hb : b.length < 2000000) (p : Int) : M.spec_MoveTo a b p = some (moveTo a b p) := by
  unfold M.spec_MoveTo
  simp only [spec_isVec a ha, Option.bind_some]
  by_cases va : isVec a = true
  · simp only [va, Bool.not_true, cond_false, spec_isVec b hb, Option.bind_some]
    by_cases vb : isVec b = true
    · simp only [vb, Bool.not_true, cond_false, spec_inR, Option.bind_some]
      by_cases hp : 0 ≤ p ∧ p ≤ 1000
      · obtain ⟨h0', h1'⟩ := hp
        simp only [decide_true, Bool.and_self, Bool.not_true, cond_false, moveTo, va, vb, h0', h1', and_self, if_true]
        obtain ⟨x0, x1, x2, x3, rfl, c0, c1, c2, c3⟩ := isVec_cut va
        obtain ⟨y0, y1, y2, y3, rfl, e0, e1, e2, e3⟩ := isVec_cut vb
        obtain ⟨p0, q0, r0, s0⟩ := mv_step c0 e0 h0' h1'
        obtain ⟨p1, q1, r1, s1⟩ := mv_step c1 e1 h0' h1'
        obtain ⟨p2, q2, r2, s2⟩ := mv_step c2 e2 h0' h1'
        obtain ⟨p3, q3, r3, s3⟩ := mv_step c3 e3 h0' h1'
        rw [loop4 (s1 := ([mv p x0 y0], 1)) (s2 := ([mv p x0 y0, mv p x1 y1], 2)) (s3 := ([mv p x0 y0, mv p x1 y1, mv p x2 y2], 3)) (s4 := ([mv p x0 y0, mv p x1 y1, mv p x2 y2, mv p x3 y3], 4)) (r := [mv p x0 y0, mv p x1 y1, mv p x2 y2, mv p x3 y3])]
        · rfl
        · simp only [d04, gi0, i01, cond_true, Option.bind_some, p0, specDown_ok (show (0 : Int) < 1000 by omega) q0 r0, s0]; rw [gapp_ok (by simp)]; rfl
        · simp only [d14, gi1, i12, cond_true, Option.bind_some, p1, specDown_ok (show (0 : Int) < 1000 by omega) q1 r1, s1]; rw [gapp_ok (by simp)]; rfl
        · simp only [d24, gi2, i23, cond_true, Option.bind_some, p2, specDown_ok (show (0 : Int) < 1000 by omega) q2 r2, s2]; rw [gapp_ok (by simp)]; rfl
        · simp only [d34, gi3, i34, cond_true, Option.bind_some, p3, specDown_ok (show (0 : Int) < 1000 by omega) q3 r3, s3]; rw [gapp_ok (by simp)]; rfl
        · simp only [d44, cond_false]
      · have e : (decide (0 ≤ p) && decide (p ≤ 1000)) = false := by simp; omega
        simp only [e, moveTo]
        rw [if_neg (fun h => hp h.2.2)]; rfl
    · have vb' : isVec b = false := by simpa using vb
      simp [vb', moveTo]
  · have va' : isVec a = false := by simpa using va
    simp [va', moveTo]

theorem drawMoveTo_ok (code : List UInt8) : ∃ a b p, M.spec_DrawMoveTo code = some (a, b, p) ∧ Near a ∧ Near b ∧ -1 ≤ p ∧ p ≤ 1001 := by
  obtain ⟨r, h, g⟩ := newReader_ok code
  obtain ⟨v, r2, h2, g2, n⟩ := any_ok (by omega) g
  obtain ⟨u, r3, h3, g3, n'⟩ := any_ok (by omega) g2
  obtain ⟨x, r4, h4, g4, m⟩ := one_ok (by omega) g3 (list := [0, 500, 1000, 333, 1, 1001, -1]) (by simp)
  refine ⟨v, u, x, by unfold M.spec_DrawMoveTo; simp only [h, h2, h3, h4, Option.bind_some], n, n', ?_⟩
  simp only [List.mem_cons, List.not_mem_nil, or_false] at m
  omega
theorem moveTo_len {a b : List Int} {p : Int} : (moveTo a b p).length < 2000000 := by unfold moveTo; split <;> simp
theorem moveTo_nil {a b : List Int} {p : Int} : moveTo a b p = [] ∨ (isVec a = true ∧ isVec b = true ∧ 0 ≤ p ∧ p ≤ 1000) := by
  unfold moveTo; split
  · rename_i h; exact .inr h
  · exact .inl rfl
theorem moveTo_vec {p x0 x1 x2 x3 y0 y1 y2 y3 : Int} (va : isVec [x0, x1, x2, x3] = true) (vb : isVec [y0, y1, y2, y3] = true) (h0 : 0 ≤ p) (h1 : p ≤ 1000) : moveTo [x0, x1, x2, x3] [y0, y1, y2, y3] p = [mv p x0 y0, mv p x1 y1, mv p x2 y2, mv p x3 y3] := by
  unfold moveTo; rw [if_pos ⟨va, vb, h0, h1⟩]; rfl

theorem isVec_mk {a b c d : Int} (ha : Co a) (hb : Co b) (hc : Co c) (hd : Co d) : isVec [a, b, c, d] = true := by
  rw [isVec_iff]
  refine ⟨rfl, ?_⟩
  simp only [List.mem_cons, List.not_mem_nil, or_false]
  rintro x (rfl | rfl | rfl | rfl)
  · exact ha
  · exact hb
  · exact hc
  · exact hd

end Go.Vs

namespace Go.Vs

end Go.Vs

namespace Go.Vs

theorem law_MoveToSame (code : List UInt8) : M.laws_FnMoveToSame code = some true := by
  obtain ⟨a, b, p, h, na, nb, hp⟩ := drawMoveTo_ok code
  have la : a.length < 2000000 := by have := na.1; omega
  have lb : b.length < 2000000 := by have := nb.1; omega
  unfold M.laws_FnMoveToSame
  by_cases hc : 1048576 < (code.length : Int)
  · simp [hc]
  simp only [hc, decide_false, cond_false, h, Option.bind_some, implMove_ok la lb, implMove_ok la la, specMove_ok la lb, equalInts_ok moveTo_len, decide_true, Bool.not_true, impl_valid _ moveTo_len]
  rcases moveTo_nil (a := a) (b := b) (p := p) with hn | ⟨va, vb, h0, h1⟩
  · simp [hn]
  · obtain ⟨x0, x1, x2, x3, rfl, c0, c1, c2, c3⟩ := isVec_cut va
    obtain ⟨y0, y1, y2, y3, rfl, e0, e1, e2, e3⟩ := isVec_cut vb
    have vm := isVec_mk (mv_co c0 e0 h0 h1) (mv_co c1 e1 h0 h1) (mv_co c2 e2 h0 h1) (mv_co c3 e3 h0 h1)
    have ms : ∀ x, mv p x x = x := by intro x; unfold mv; simp
    rw [moveTo_vec va vb h0 h1, moveTo_vec va va h0 h1, vm]
    simp only [ms, l4, show ((4 : Int) == 0) = false from rfl, cond_false, decide_true, cond_true, Option.bind_some]

end Go.Vs
