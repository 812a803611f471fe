/- Plain facts of what the functions compute. -/
import Derived.Test.YtgokepoinohioabDistanceOneEng1
import Derived.Test.YtgokepoinohioabDistanceOneLib1
set_option linter.unusedVariables false
set_option linter.unusedSimpArgs false
namespace Go.Vs

theorem w64_nat {n : Nat} (h : n < 9223372036854775808) : w64 (n : Int) = n := w64_id (by omega) (by omega)
theorem gidx_nat {α : Type} {xs : List α} {i : Nat} (h : i < xs.length) : gidx xs (i : Int) = some xs[i] := by
  unfold gidx
  rw [if_pos (by omega)]
  simp [h]
theorem gidx_lt' {α : Type} {xs : List α} {a : Int} (h0 : 0 ≤ a) (h : a < xs.length) : ∃ e, gidx xs a = some e ∧ e ∈ xs := by
  obtain ⟨n, rfl⟩ := Int.eq_ofNat_of_zero_le h0
  have hn : n < xs.length := by omega
  exact ⟨xs[n], gidx_nat hn, List.getElem_mem _⟩
theorem gapp_ok {α : Type} {xs ys : List α} (h : xs.length + ys.length ≤ 2147483648) : gapp xs ys = some (xs ++ ys) := by unfold gapp; rw [if_pos h]
theorem grem_ok {a b : Int} (h : b ≠ 0) : grem a b = some (a.tmod b) := by unfold grem; rw [if_neg h]
theorem gquo_ok {a b : Int} (h : b ≠ 0) : gquo a b = some (w64 (a.tdiv b)) := by unfold gquo; rw [if_neg h]
theorem gslice_ok {α : Type} {xs : List α} {l h : Int} (h0 : 0 ≤ l) (h1 : l ≤ h) (h2 : h ≤ xs.length) : gslice xs l h = some ((xs.take h.toNat).drop l.toNat) := by
  unfold gslice; rw [if_pos ⟨h0, h1, h2⟩]
theorem garr_ok {α : Type} {k : Nat} {xs : List α} (h : k ≤ xs.length) : garr k xs = some (xs.take k) := by unfold garr; rw [if_pos h]

theorem tmod_range {a b : Int} (ha : 0 ≤ a) (hb : 0 < b) : 0 ≤ a.tmod b ∧ a.tmod b < b := by
  rw [Int.tmod_eq_emod_of_nonneg ha]
  exact ⟨Int.emod_nonneg _ (by omega), Int.emod_lt_of_pos _ hb⟩
theorem tdiv_range {a b : Int} (ha : 0 ≤ a) (hb : 0 < b) : 0 ≤ a.tdiv b ∧ a.tdiv b ≤ a := by
  rw [Int.tdiv_eq_ediv_of_nonneg ha]
  exact ⟨Int.ediv_nonneg ha (by omega), Int.ediv_le_self _ ha⟩
theorem gxor_range {a b : Int} (ha : 0 ≤ a) (ha' : a < 4611686018427387904) (hb : 0 ≤ b) (hb' : b < 4611686018427387904) : 0 ≤ gxor a b ∧ gxor a b < 4611686018427387904 := by
  obtain ⟨m, rfl⟩ := Int.eq_ofNat_of_zero_le ha
  obtain ⟨n, rfl⟩ := Int.eq_ofNat_of_zero_le hb
  have h1 : (BitVec.ofInt 64 (m : Int) ^^^ BitVec.ofInt 64 (n : Int)).toNat = m ^^^ n := by
    rw [BitVec.toNat_xor]
    have e : ∀ k : Nat, k < 4611686018427387904 → (BitVec.ofInt 64 (k : Int)).toNat = k := by
      intro k hk
      simp only [BitVec.toNat_ofInt]
      omega
    rw [e m (by omega), e n (by omega)]
  have h2 : m ^^^ n < 2 ^ 62 := Nat.xor_lt_two_pow (by omega) (by omega)
  have h3 : (2 : Nat) ^ 62 = 4611686018427387904 := by decide
  unfold gxor
  rw [h1]
  have : w64 ((m ^^^ n : Nat) : Int) = (m ^^^ n : Nat) := w64_nat (by omega)
  show 0 ≤ w64 _ ∧ w64 _ < _
  rw [this]
  omega
/-- A loop that looks at each element, and leaves at the first that fails. -/
theorem loop_all {α R : Type} {xs : List α} {P : α → Bool} {r : R} {f : Int → Option (Int ⊕ (Unit ⊕ R))} (hs : ∀ i (h : i < xs.length), f (i : Int) = some (if P xs[i] then .inl ((i : Int) + 1) else .inr (.inr r))) (he : f (xs.length : Int) = some (.inr (.inl ()))) :
    loopM f 0 = some (if xs.all P then .inl () else .inr r) := by
  have key : ∀ m k : Nat, k + m = xs.length → loopM f (k : Int) = some (if (xs.drop k).all P then .inl () else .inr r) := by
    intro m
    induction m with
    | zero =>
      intro k hk
      have : k = xs.length := by omega
      subst this
      rw [loopM_eq, he]; simp [selim]
    | succ m ih =>
      intro k hk
      have hlt : k < xs.length := by omega
      rw [loopM_eq, hs k hlt, List.drop_eq_getElem_cons hlt]
      by_cases hp : P xs[k] = true
      · rw [if_pos hp]
        have := ih (k + 1) (by omega)
        simp only [Int.natCast_add, Int.cast_ofNat_Int] at this
        simp only [List.all_cons, hp, Bool.true_and, selim, this, Option.bind_some]
      · rw [if_neg hp]
        simp only [List.all_cons, Bool.not_eq_true] at hp ⊢
        simp only [hp, Bool.false_and, selim, Option.bind_some]; rfl
  have := key xs.length 0 (by omega)
  simpa using this
end Go.Vs

namespace Go.Vs

/-- A reader that has been asked at most k times. -/
def Good (k : Nat) (r : List UInt8 × Int) : Prop := r.1.length ≤ 2000 ∧ 0 ≤ r.2 ∧ r.2 ≤ k
theorem Good.mono {k m : Nat} {r : List UInt8 × Int} (h : Good k r) (hm : k ≤ m) : Good m r := ⟨h.1, h.2.1, by have := h.2.2; omega⟩

theorem pick_ok {k : Nat} (hk : k ≤ 1000000) {r : List UInt8 × Int} (hr : Good k r) (n : Int) :
    ∃ x r', M.spec_reader_pick r n = some (x, r') ∧ Good (k + 1) r' ∧ 0 ≤ x ∧ (1 ≤ n → x < n) ∧ (n < 1 → x = 0) := by
  obtain ⟨b, p⟩ := r
  obtain ⟨h1, h2, h3⟩ := hr
  simp only at h1 h2 h3
  have e1 : w64 (p + 1) = p + 1 := w64_id (by omega) (by omega)
  have e2 : w64 (p + 1 - 1) = p := by rw [w64_id (by omega) (by omega)]; omega
  have hgood : Good (k + 1) (b, p + 1) := ⟨h1, by simp only; omega, by simp only; omega⟩
  unfold M.spec_reader_pick
  simp only [e1, e2]
  by_cases hn : n < 1
  · refine ⟨0, (b, p + 1), ?_, hgood, by omega, fun h => by omega, fun _ => rfl⟩
    simp [hn]
  · by_cases hb : b.length = 0
    · refine ⟨0, (b, p + 1), ?_, hgood, by omega, fun h => by omega, fun _ => rfl⟩
      simp [hn, hb]
    · have hbl : (b.length : Int) ≠ 0 := by omega
      have hbb : ((b.length : Int) == 0) = false := by simpa using hb
      simp only [hn, decide_false, cond_false, hbb, Option.bind_some]
      by_cases hp : p < (b.length : Int)
      · obtain ⟨e, he, _⟩ := gidx_lt' (xs := b) h2 hp
        have hE : w64 (e.toNat : Int) = e.toNat := w64_nat (by have := e.toNat_lt; omega)
        have hr := tmod_range (a := (e.toNat : Int)) (b := n) (by omega) (by omega)
        refine ⟨_, (b, p + 1), ?_, hgood, hr.1, fun _ => hr.2, fun h => h.elim⟩
        simp only [hp, decide_true, cond_true, he, Option.bind_some, hE, grem_ok (show n ≠ 0 by omega)]
      · simp only [hp, decide_false, cond_false]
        have hbp : 0 < (b.length : Int) := by omega
        have r1 := tmod_range (a := p) h2 hbp
        have e7 : w64 (w64 (p * 7) + 3) = p * 7 + 3 := by rw [w64_id (n := p * 7) (by omega) (by omega), w64_id (by omega) (by omega)]
        have r2 := tmod_range (a := p * 7 + 3) (b := (b.length : Int)) (by omega) hbp
        obtain ⟨x, hx, _⟩ := gidx_lt' (xs := b) r1.1 r1.2
        obtain ⟨y, hy, _⟩ := gidx_lt' (xs := b) r2.1 r2.2
        have hX : (x.toNat : Int) < 256 := by have := x.toNat_lt; omega
        have hY : (y.toNat : Int) < 256 := by have := y.toNat_lt; omega
        have r3 := tdiv_range (a := p) (b := (b.length : Int)) h2 hbp
        simp only [grem_ok hbl, Option.bind_some, hx, e7, hy, gquo_ok hbl]
        generalize hq : w64 (p.tdiv (b.length : Int)) = q
        have hq' : 0 ≤ q ∧ q ≤ 1000000 := by rw [← hq, w64_id (by omega) (by omega)]; omega
        have eX : w64 (x.toNat : Int) = x.toNat := w64_id (by omega) (by omega)
        have eY : w64 (y.toNat : Int) = y.toNat := w64_id (by omega) (by omega)
        simp only [eX, eY]
        have eX' : w64 ((x.toNat : Int) * 131) = x.toNat * 131 := w64_id (by omega) (by omega)
        have eY' : w64 ((y.toNat : Int) * 1117) = y.toNat * 1117 := w64_id (by omega) (by omega)
        have eP : w64 (p * 29) = p * 29 := w64_id (by omega) (by omega)
        have eQ : w64 (q * 53) = q * 53 := w64_id (by omega) (by omega)
        simp only [eX', eY', eP, eQ]
        have eA : w64 ((x.toNat : Int) * 131 + y.toNat * 1117) = x.toNat * 131 + y.toNat * 1117 := w64_id (by omega) (by omega)
        simp only [eA]
        have eB : w64 ((x.toNat : Int) * 131 + y.toNat * 1117 + p * 29) = x.toNat * 131 + y.toNat * 1117 + p * 29 := w64_id (by omega) (by omega)
        simp only [eB]
        have eC : w64 ((x.toNat : Int) * 131 + y.toNat * 1117 + p * 29 + q * 53) = x.toNat * 131 + y.toNat * 1117 + p * 29 + q * 53 := w64_id (by omega) (by omega)
        simp only [eC]
        generalize hZ : (x.toNat : Int) * 131 + y.toNat * 1117 + p * 29 + q * 53 = Z
        have hZ' : 0 ≤ Z ∧ Z ≤ 1000000000 := by omega
        have r4 := tdiv_range (a := Z) (b := 64) hZ'.1 (by omega)
        have eD : w64 (Z.tdiv 64) = Z.tdiv 64 := w64_id (by omega) (by omega)
        rw [eD]
        have r5 := gxor_range (a := Z) (b := Z.tdiv 64) (by omega) (by omega) (by omega) (by omega)
        have r6 := tmod_range (a := gxor Z (Z.tdiv 64)) (b := n) r5.1 (by omega)
        refine ⟨_, (b, p + 1), ?_, hgood, r6.1, fun _ => r6.2, fun h => h.elim⟩
        simp only [grem_ok (show n ≠ 0 by omega), Option.bind_some]

theorem one_ok {k : Nat} (hk : k ≤ 1000000) {r : List UInt8 × Int} (hr : Good k r) {list : List Int} (hl : list ≠ []) :
    ∃ x r', M.spec_reader_one r list = some (x, r') ∧ Good (k + 1) r' ∧ x ∈ list := by
  obtain ⟨x, r', h1, h2, h3, h4, _⟩ := pick_ok hk hr (list.length : Int)
  have hlen : 1 ≤ (list.length : Int) := by
    have : list.length ≠ 0 := by simpa using hl
    omega
  obtain ⟨e, he, hm⟩ := gidx_lt' h3 (h4 hlen)
  refine ⟨e, r', ?_, h2, hm⟩
  unfold M.spec_reader_one
  simp only [h1, Option.bind_some, he]

theorem coord_ok {k : Nat} (hk : k ≤ 900000) {r : List UInt8 × Int} (hr : Good k r) :
    ∃ x r', M.spec_someCoord r = some (x, r') ∧ Good (k + 3) r' ∧ -100 ≤ x ∧ x ≤ 100 := by
  obtain ⟨x1, r1, h1, g1, a1, b1, _⟩ := pick_ok (by omega) hr 201
  obtain ⟨x2, r2, h2, g2, a2, b2, _⟩ := pick_ok (by omega) g1 21
  have b1 := b1 (by omega)
  have b2 := b2 (by omega)
  have e1 : w64 (x1 - 100) = x1 - 100 := w64_id (by omega) (by omega)
  have e2 : w64 (x2 - 10) = x2 - 10 := w64_id (by omega) (by omega)
  obtain ⟨x3, r3, h3, g3, m3⟩ := one_ok (by omega) g2 (list := [0, 1, -1, 5, -7, 10, 3, 100, -100, x1 - 100, x2 - 10]) (by simp)
  refine ⟨x3, r3, ?_, g3, ?_⟩
  · unfold M.spec_someCoord
    simp only [h1, Option.bind_some, h2, e1, e2, h3]
  · simp only [List.mem_cons, List.not_mem_nil, or_false] at m3
    omega

/-- A valid vector. -/
def isVec (v : List Int) : Bool := decide (v.length = 4) && v.all fun x => decide (-100 ≤ x) && decide (x ≤ 100)
theorem isVec_iff {v : List Int} : isVec v = true ↔ v.length = 4 ∧ ∀ x ∈ v, -100 ≤ x ∧ x ≤ 100 := by
  unfold isVec; simp
theorem isVec_four {v : List Int} (h : isVec v = true) : ∃ a b c d, v = [a, b, c, d] ∧ (-100 ≤ a ∧ a ≤ 100) ∧ (-100 ≤ b ∧ b ≤ 100) ∧ (-100 ≤ c ∧ c ≤ 100) ∧ (-100 ≤ d ∧ d ≤ 100) := by
  obtain ⟨h1, h2⟩ := isVec_iff.1 h
  match v, h1 with
  | [a, b, c, d], _ => exact ⟨a, b, c, d, rfl, h2 a (by simp), h2 b (by simp), h2 c (by simp), h2 d (by simp)⟩

theorem vector_ok {k : Nat} (hk : k ≤ 800000) {r : List UInt8 × Int} (hr : Good k r) :
    ∃ v r', M.spec_someVector r = some (v, r') ∧ Good (k + 12) r' ∧ isVec v = true := by
  obtain ⟨x1, r1, h1, g1, a1, b1⟩ := coord_ok (by omega) hr
  obtain ⟨x2, r2, h2, g2, a2, b2⟩ := coord_ok (by omega) g1
  obtain ⟨x3, r3, h3, g3, a3, b3⟩ := coord_ok (by omega) g2
  obtain ⟨x4, r4, h4, g4, a4, b4⟩ := coord_ok (by omega) g3
  refine ⟨[x1, x2, x3, x4], r4, ?_, g4, isVec_iff.2 ⟨rfl, by simp only [List.mem_cons, List.not_mem_nil, or_false]; rintro x (rfl | rfl | rfl | rfl) <;> omega⟩⟩
  have e : ∀ n : Nat, n < 10 → w64 ((n : Int) + 1) = (n : Int) + 1 := fun n hn => w64_id (by omega) (by omega)
  have e0 : w64 ((0 : Int) + 1) = 1 := e 0 (by omega)
  have e1 : w64 ((1 : Int) + 1) = 2 := e 1 (by omega)
  have e2 : w64 ((2 : Int) + 1) = 3 := e 2 (by omega)
  have e3 : w64 ((3 : Int) + 1) = 4 := e 3 (by omega)
  have ga : ∀ (xs : List Int) (x : Int), xs.length < 10 → gapp xs [x] = some (xs ++ [x]) := fun xs x hx => gapp_ok (by simp; omega)
  unfold M.spec_someVector
  rw [loopM_eq]
  simp only [show decide ((0 : Int) < 4) = true from rfl, cond_true, h1, Option.bind_some, ga [] x1 (by simp), selim, e0, List.nil_append]
  rw [loopM_eq]
  simp only [show decide ((1 : Int) < 4) = true from rfl, cond_true, h2, Option.bind_some, ga [x1] x2 (by simp), selim, e1, List.cons_append, List.nil_append]
  rw [loopM_eq]
  simp only [show decide ((2 : Int) < 4) = true from rfl, cond_true, h3, Option.bind_some, ga [x1, x2] x3 (by simp), selim, e2, List.cons_append, List.nil_append]
  rw [loopM_eq]
  simp only [show decide ((3 : Int) < 4) = true from rfl, cond_true, h4, Option.bind_some, ga [x1, x2, x3] x4 (by simp), selim, e3, List.cons_append, List.nil_append]
  rw [loopM_eq]
  simp only [show decide ((4 : Int) < 4) = false from rfl, cond_false, Option.bind_some, selim]
end Go.Vs
namespace Go.Vs
/-- A vector that may be drawn. -/
def Near (v : List Int) : Prop := v.length ≤ 5 ∧ ∀ x ∈ v, -101 ≤ x ∧ x ≤ 101
theorem near_of {v : List Int} (h : isVec v = true) : Near v := by
  obtain ⟨h1, h2⟩ := isVec_iff.1 h
  exact ⟨by omega, fun x hx => by have := h2 x hx; omega⟩
theorem copy_ok {v : List Int} (h : v.length ≤ 1000000) : M.spec_copyInts v = some v := by
  unfold M.spec_copyInts
  rw [gapp_ok (by simp; omega)]; rfl
theorem spoil_ok {k : Nat} (hk : k ≤ 700000) {r : List UInt8 × Int} (hr : Good k r) {v : List Int} (hv : isVec v = true) :
    ∃ u r', M.spec_reader_spoil r v 101 = some (u, r') ∧ Good (k + 3) r' ∧ Near u := by
  obtain ⟨hl, hb⟩ := isVec_iff.1 hv
  obtain ⟨x1, r1, h1, g1, a1, b1, _⟩ := pick_ok (by omega) hr 20
  unfold M.spec_reader_spoil
  simp only [copy_ok (v := v) (by omega), Option.bind_some, h1]
  by_cases c0 : x1 = 0
  · refine ⟨v ++ [101], r1, ?_, g1.mono (by omega), ?_⟩
    · simp [c0, gapp_ok (xs := v) (ys := [101]) (by simp; omega)]
    · refine ⟨by simp; omega, fun x hx => ?_⟩
      rcases List.mem_append.1 hx with h | h
      · have := hb x h; omega
      · simp at h; omega
  · have e0 : (x1 == 0) = false := by simpa using c0
    simp only [e0, cond_false]
    have hpos : decide (0 < (v.length : Int)) = true := by simp; omega
    have hp' : 0 < v.length := by omega
    by_cases c1 : x1 = 1
    · refine ⟨v.drop 1, r1, ?_, g1.mono (by omega), by simp; omega, fun x hx => ?_⟩
      · have : gslice v 1 (v.length : Int) = some (v.drop 1) := by
          rw [gslice_ok (by omega) (by omega) (by omega)]; simp
        simp [c1, hp', this]
      · have := hb x (List.mem_of_mem_drop hx); omega
    · have e1 : (x1 == 1) = false := by simpa using c1
      simp only [e1, cond_false]
      by_cases c2 : x1 = 2
      · obtain ⟨i, r2, h2, g2, a2, b2, _⟩ := pick_ok (by omega) g1 (v.length : Int)
        obtain ⟨y, r3, h3, g3, m3⟩ := one_ok (by omega) g2 (list := [-1, 101, 0, 1]) (by simp)
        have b2 := b2 (by omega)
        obtain ⟨z, hz, _⟩ := gidx_lt' (xs := v) a2 b2
        refine ⟨v.set i.toNat y, r3, ?_, g3, by simp; omega, fun x hx => ?_⟩
        · simp [c2, hp', h2, h3, hz]
        · rcases List.mem_or_eq_of_mem_set hx with h | h
          · have := hb x h; omega
          · subst h
            simp only [List.mem_cons, List.not_mem_nil, or_false] at m3
            omega
      · have e2 : (x1 == 2) = false := by simpa using c2
        exact ⟨v, r1, by simp [e2], g1.mono (by omega), near_of hv⟩
theorem any_ok {k : Nat} (hk : k ≤ 600000) {r : List UInt8 × Int} (hr : Good k r) :
    ∃ v r', M.spec_anyVector r = some (v, r') ∧ Good (k + 16) r' ∧ Near v := by
  obtain ⟨x1, r1, h1, g1, a1, b1, _⟩ := pick_ok (by omega) hr 10
  obtain ⟨v, r2, h2, g2, hv⟩ := vector_ok (by omega) g1
  unfold M.spec_anyVector
  simp only [h1, Option.bind_some]
  by_cases c0 : x1 = 0
  · obtain ⟨u, r3, h3, g3, hu⟩ := spoil_ok (by omega) g2 hv
    exact ⟨u, r3, by simp [c0, h2, h3], g3, hu⟩
  · have e0 : (x1 == 0) = false := by simpa using c0
    exact ⟨v, r2, by simp [e0, h2], g2.mono (by omega), near_of hv⟩
theorem newReader_ok (code : List UInt8) : ∃ r, M.spec_newReader code = some r ∧ Good 0 r := by
  unfold M.spec_newReader
  by_cases h : 2000 < (code.length : Int)
  · refine ⟨(code.take 2000, 0), ?_, by simp; omega, by simp, by simp⟩
    have : gslice code 0 2000 = some (code.take 2000) := by
      rw [gslice_ok (by omega) (by omega) (by omega)]; simp
    simp [h, this]
  · exact ⟨(code, 0), by simp [h], by simp only; omega, by simp, by simp⟩

theorem implCoords_ok (v : List Int) (hb : v.length < 2000000) : M.impl_validCoords v = some (v.all fun x => decide (-100 ≤ x) && decide (x ≤ 100)) := by
  unfold M.impl_validCoords
  rw [loop_all (xs := v) (P := fun x => decide (-100 ≤ x) && decide (x ≤ 100)) (r := false)]
  · by_cases ha : (v.all fun x => decide (-100 ≤ x) && decide (x ≤ 100)) = true
    · simp only [ha, if_true, Option.bind_some, selim]
    · simp only [Bool.not_eq_true] at ha
      simp only [ha]; simp [selim]
  · intro i h
    have e1 : decide ((i : Int) < (v.length : Int)) = true := by simpa using h
    have e2 : w64 ((i : Int) + 1) = (i : Int) + 1 := w64_id (by omega) (by omega)
    simp only [e1, cond_true, gidx_nat h, Option.bind_some, e2]
    by_cases c1 : v[i] < -100
    · have c2 : ¬ (-100 ≤ v[i]) := by omega
      simp [c1, c2]
    · by_cases c3 : 100 < v[i]
      · have c4 : ¬ (v[i] ≤ 100) := by omega
        simp [c1, c3, c4]
      · simp [c1, c3, show -100 ≤ v[i] by omega, show v[i] ≤ 100 by omega]
  · simp
theorem impl_valid (v : List Int) (hb : v.length < 2000000) : M.impl_ValidVector v = some (isVec v) := by
  unfold M.impl_ValidVector
  simp only [implCoords_ok v hb, Option.bind_some]
  unfold isVec
  by_cases hl : v.length = 4
  · have e : ((v.length : Int) == 4) = true := by simp; omega
    rw [e, cond_true, decide_eq_true hl, Bool.true_and]
  · have e : ((v.length : Int) == 4) = false := by simp; omega
    rw [e, cond_false, decide_eq_false hl, Bool.false_and]
theorem spec_inR (n l h : Int) : M.spec_inRange n l h = some (decide (l ≤ n) && decide (n ≤ h)) := by
  unfold M.spec_inRange
  by_cases h1 : l ≤ n <;> simp [h1]
theorem spec_all (v : List Int) (l h : Int) (hb : v.length < 2000000) : M.spec_allIn v l h = some (v.all fun x => decide (l ≤ x) && decide (x ≤ h)) := by
  unfold M.spec_allIn
  rw [loop_all (xs := v) (P := fun x => decide (l ≤ x) && decide (x ≤ h)) (r := false)]
  · by_cases ha : (v.all fun x => decide (l ≤ x) && decide (x ≤ h)) = true
    · simp only [ha, if_true, Option.bind_some, selim]
    · simp only [Bool.not_eq_true] at ha
      simp [ha, selim]
  · intro i hi
    have e1 : decide ((i : Int) < (v.length : Int)) = true := by simpa using hi
    have e2 : w64 ((i : Int) + 1) = (i : Int) + 1 := w64_id (by omega) (by omega)
    simp only [e1, cond_true, gidx_nat hi, Option.bind_some, e2, spec_inR]
    cases (decide (l ≤ v[i]) && decide (v[i] ≤ h)) <;> rfl
  · simp
theorem spec_isVec (v : List Int) (hb : v.length < 2000000) : M.spec_isVector v = some (isVec v) := by
  unfold M.spec_isVector
  by_cases hl : v.length = 4
  · have e : ((v.length : Int) == 4) = true := by simp; omega
    simp [e, spec_all v _ _ hb, isVec, hl]
  · have e : ((v.length : Int) == 4) = false := by simp; omega
    simp [e, isVec, hl]
end Go.Vs

namespace Go.Vs

end Go.Vs

namespace Go.Vs

theorem loop4 {S R : Type} {f : S → Option (S ⊕ R)} {s0 s1 s2 s3 s4 : S} {r : R} (h0 : f s0 = some (.inl s1)) (h1 : f s1 = some (.inl s2)) (h2 : f s2 = some (.inl s3)) (h3 : f s3 = some (.inl s4)) (h4 : f s4 = some (.inr r)) : loopM f s0 = some r := by
  rw [loopM_eq, h0, Option.bind_some, selim, loopM_eq, h1, Option.bind_some, selim, loopM_eq, h2, Option.bind_some, selim, loopM_eq, h3, Option.bind_some, selim, loopM_eq, h4]; rfl
theorem gi0 {α : Type} {a : α} {l : List α} : gidx (a :: l) 0 = some a := gidx_nat (i := 0) (by simp)
theorem gi1 {α : Type} {a b : α} {l : List α} : gidx (a :: b :: l) 1 = some b := gidx_nat (i := 1) (by simp)
theorem gi2 {α : Type} {a b c : α} {l : List α} : gidx (a :: b :: c :: l) 2 = some c := gidx_nat (i := 2) (by simp)
theorem gi3 {α : Type} {a b c d : α} {l : List α} : gidx (a :: b :: c :: d :: l) 3 = some d := gidx_nat (i := 3) (by simp)
theorem i01 : w64 ((0 : Int) + 1) = 1 := w64_id (by omega) (by omega)
theorem i12 : w64 ((1 : Int) + 1) = 2 := w64_id (by omega) (by omega)
theorem i23 : w64 ((2 : Int) + 1) = 3 := w64_id (by omega) (by omega)
theorem i34 : w64 ((3 : Int) + 1) = 4 := w64_id (by omega) (by omega)
theorem d04 : decide ((0 : Int) < 4) = true := rfl
theorem d14 : decide ((1 : Int) < 4) = true := rfl
theorem d24 : decide ((2 : Int) < 4) = true := rfl
theorem d34 : decide ((3 : Int) < 4) = true := rfl
theorem d44 : decide ((4 : Int) < 4) = false := rfl
theorem l4 {α : Type} {a b c d : α} : (([a, b, c, d] : List α).length : Int) = 4 := rfl

/-- How far two coordinates lie apart. -/
def gap (x y : Int) : Int := max (x - y) (y - x)
theorem gap_nonneg (x y : Int) : 0 ≤ gap x y := by unfold gap; omega
/-- A coordinate. -/
def Co (x : Int) : Prop := -100 ≤ x ∧ x ≤ 100
theorem gap_le {x y : Int} (hx : Co x) (hy : Co y) : gap x y ≤ 200 := by unfold gap; unfold Co at hx hy; omega
theorem sq_bounds {g : Int} (h0 : 0 ≤ g) (h : g ≤ 200) : 0 ≤ g * g ∧ g ≤ g * g ∧ g * g ≤ 40000 := by
  refine ⟨Int.mul_nonneg h0 h0, ?_, ?_⟩
  · by_cases h1 : g = 0
    · subst h1; simp
    · have := Int.mul_le_mul_of_nonneg_right (show (1 : Int) ≤ g by omega) h0; omega
  · have := Int.mul_le_mul h h h0 (by omega); omega
/-- The distance of a kind, from the gaps. -/
def dk (k g0 g1 g2 g3 : Int) : Int :=
  if k = 1 then g0 + g1 + g2 + g3 else if k = 2 then max (max (max (max 0 g0) g1) g2) g3 else if k = 3 then g0 * g0 + g1 * g1 + g2 * g2 + g3 * g3 else if k = 4 then min g0 1 + min g1 1 + min g2 1 + min g3 1 else -1

theorem distanceOf_ok (k : Int) {g0 g1 g2 g3 : Int} (h0 : 0 ≤ g0) (h0' : g0 ≤ 200) (h1 : 0 ≤ g1) (h1' : g1 ≤ 200) (h2 : 0 ≤ g2) (h2' : g2 ≤ 200) (h3 : 0 ≤ g3) (h3' : g3 ≤ 200) :
    M.impl_distanceOf k [g0, g1, g2, g3] = some (dk k g0 g1 g2 g3) := by
  unfold M.impl_distanceOf
  have s0 := sq_bounds h0 h0'
  have s1 := sq_bounds h1 h1'
  have s2 := sq_bounds h2 h2'
  have s3 := sq_bounds h3 h3'
  by_cases k1 : k = 1
  · subst k1
    have e0 : w64 (0 + g0) = g0 := by rw [w64_id (by omega) (by omega)]; omega
    have e1 : w64 (g0 + g1) = g0 + g1 := w64_id (by omega) (by omega)
    have e2 : w64 (g0 + g1 + g2) = g0 + g1 + g2 := w64_id (by omega) (by omega)
    have e3 : w64 (g0 + g1 + g2 + g3) = g0 + g1 + g2 + g3 := w64_id (by omega) (by omega)
    rw [loop4 (s1 := (g0, 1)) (s2 := (g0 + g1, 2)) (s3 := (g0 + g1 + g2, 3)) (s4 := (g0 + g1 + g2 + g3, 4)) (r := .inl (g0 + g1 + g2 + g3))]
    · rfl
    · simp only [d04, gi0, i01, e0, selim, cond_true, Option.bind_some]; rfl
    · simp only [d14, gi1, i12, e1, selim, cond_true, Option.bind_some]; rfl
    · simp only [d24, gi2, i23, e2, selim, cond_true, Option.bind_some]; rfl
    · simp only [d34, gi3, i34, e3, selim, cond_true, Option.bind_some]; rfl
    · simp [d44]
  by_cases k2 : k = 2
  · subst k2
    rw [loop4 (s1 := (max 0 g0, 1)) (s2 := (max (max 0 g0) g1, 2)) (s3 := (max (max (max 0 g0) g1) g2, 3)) (s4 := (max (max (max (max 0 g0) g1) g2) g3, 4)) (r := .inl (max (max (max (max 0 g0) g1) g2) g3))]
    · rfl
    · simp only [d04, gi0, i01, selim, cond_true, Option.bind_some]; rfl
    · simp only [d14, gi1, i12, selim, cond_true, Option.bind_some]; rfl
    · simp only [d24, gi2, i23, selim, cond_true, Option.bind_some]; rfl
    · simp only [d34, gi3, i34, selim, cond_true, Option.bind_some]; rfl
    · simp [d44]
  by_cases k3 : k = 3
  · subst k3
    have q0 : w64 (g0 * g0) = g0 * g0 := w64_id (by omega) (by omega)
    have q1 : w64 (g1 * g1) = g1 * g1 := w64_id (by omega) (by omega)
    have q2 : w64 (g2 * g2) = g2 * g2 := w64_id (by omega) (by omega)
    have q3 : w64 (g3 * g3) = g3 * g3 := w64_id (by omega) (by omega)
    have e0 : w64 (0 + g0 * g0) = g0 * g0 := by rw [w64_id (by omega) (by omega)]; omega
    have e1 : w64 (g0 * g0 + g1 * g1) = g0 * g0 + g1 * g1 := w64_id (by omega) (by omega)
    have e2 : w64 (g0 * g0 + g1 * g1 + g2 * g2) = g0 * g0 + g1 * g1 + g2 * g2 := w64_id (by omega) (by omega)
    have e3 : w64 (g0 * g0 + g1 * g1 + g2 * g2 + g3 * g3) = g0 * g0 + g1 * g1 + g2 * g2 + g3 * g3 := w64_id (by omega) (by omega)
    rw [loop4 (s1 := (g0 * g0, 1)) (s2 := (g0 * g0 + g1 * g1, 2)) (s3 := (g0 * g0 + g1 * g1 + g2 * g2, 3)) (s4 := (g0 * g0 + g1 * g1 + g2 * g2 + g3 * g3, 4)) (r := .inl (g0 * g0 + g1 * g1 + g2 * g2 + g3 * g3))]
    · rfl
    · simp only [d04, gi0, i01, e0, q0, selim, cond_true, Option.bind_some]; rfl
    · simp only [d14, gi1, i12, e1, q1, selim, cond_true, Option.bind_some]; rfl
    · simp only [d24, gi2, i23, e2, q2, selim, cond_true, Option.bind_some]; rfl
    · simp only [d34, gi3, i34, e3, q3, selim, cond_true, Option.bind_some]; rfl
    · simp [d44]
  by_cases k4 : k = 4
  · subst k4
    have e0 : w64 (0 + min g0 1) = min g0 1 := by rw [w64_id (by omega) (by omega)]; omega
    have e1 : w64 (min g0 1 + min g1 1) = min g0 1 + min g1 1 := w64_id (by omega) (by omega)
    have e2 : w64 (min g0 1 + min g1 1 + min g2 1) = min g0 1 + min g1 1 + min g2 1 := w64_id (by omega) (by omega)
    have e3 : w64 (min g0 1 + min g1 1 + min g2 1 + min g3 1) = min g0 1 + min g1 1 + min g2 1 + min g3 1 := w64_id (by omega) (by omega)
    rw [loop4 (s1 := (min g0 1, 1)) (s2 := (min g0 1 + min g1 1, 2)) (s3 := (min g0 1 + min g1 1 + min g2 1, 3)) (s4 := (min g0 1 + min g1 1 + min g2 1 + min g3 1, 4)) (r := .inl (min g0 1 + min g1 1 + min g2 1 + min g3 1))]
    · rfl
    · simp only [d04, gi0, i01, e0, selim, cond_true, Option.bind_some]; rfl
    · simp only [d14, gi1, i12, e1, selim, cond_true, Option.bind_some]; rfl
    · simp only [d24, gi2, i23, e2, selim, cond_true, Option.bind_some]; rfl
    · simp only [d34, gi3, i34, e3, selim, cond_true, Option.bind_some]; rfl
    · simp [d44]
  have b1 : (k == 1) = false := by simpa using k1
  have b2 : (k == 2) = false := by simpa using k2
  have b3 : (k == 3) = false := by simpa using k3
  have b4 : (k == 4) = false := by simpa using k4
  rw [loopM_eq]
  simp [d04, gi0, b1, b2, b3, b4, selim, dk, k1, k2, k3, k4]

theorem gapsOf_ok {a b c d x y z w : Int} (ha : Co a) (hb : Co b) (hc : Co c) (hd : Co d) (hx : Co x) (hy : Co y) (hz : Co z) (hw : Co w) :
    M.impl_gapsOf [a, b, c, d] [x, y, z, w] = some [gap a x, gap b y, gap c z, gap d w] := by
  have e : ∀ p q, Co p → Co q → max (w64 (p - q)) (w64 (q - p)) = gap p q := by
    intro p q hp hq
    unfold Co at hp hq
    rw [w64_id (n := p - q) (by omega) (by omega), w64_id (n := q - p) (by omega) (by omega)]; rfl
  unfold M.impl_gapsOf
  rw [loop4 (s1 := ([gap a x, 0, 0, 0], 1)) (s2 := ([gap a x, gap b y, 0, 0], 2)) (s3 := ([gap a x, gap b y, gap c z, 0], 3)) (s4 := ([gap a x, gap b y, gap c z, gap d w], 4)) (r := [gap a x, gap b y, gap c z, gap d w])]
  · rfl
  · simp only [show List.replicate 4 (0 : Int) = [0, 0, 0, 0] from rfl, d04, gi0, i01, cond_true, Option.bind_some, e a x ha hx]; rfl
  · simp only [d14, gi1, i12, cond_true, Option.bind_some, e b y hb hy]; rfl
  · simp only [d24, gi2, i23, cond_true, Option.bind_some, e c z hc hz]; rfl
  · simp only [d34, gi3, i34, cond_true, Option.bind_some, e d w hd hw]; rfl
  · simp only [d44, cond_false]

theorem specDist_ok {k : Int} (hk : 1 ≤ k ∧ k ≤ 4) {a b c d x y z w : Int} (ha : Co a) (hb : Co b) (hc : Co c) (hd : Co d) (hx : Co x) (hy : Co y) (hz : Co z) (hw : Co w) :
    M.spec_dist k [a, b, c, d] [x, y, z, w] = some (dk k (gap a x) (gap b y) (gap c z) (gap d w)) := by
  have e : ∀ p q, Co p → Co q → M.spec_size (w64 (p - q)) = some (gap p q) := by
    intro p q hp hq
    unfold Co at hp hq
    unfold M.spec_size
    rw [w64_id (n := p - q) (by omega) (by omega), w64_id (n := 0 - (p - q)) (by omega) (by omega)]
    unfold gap
    congr 1; omega
  have t : ∀ g : Int, 0 ≤ g → M.spec_toInt (decide (0 < g)) = some (min g 1) := by
    intro g hg
    unfold M.spec_toInt
    by_cases h : 0 < g
    · simp [h]; omega
    · simp [h]; omega
  have ea := e a x ha hx
  have eb := e b y hb hy
  have ec := e c z hc hz
  have ed := e d w hd hw
  have h0 := gap_nonneg a x
  have h1 := gap_nonneg b y
  have h2 := gap_nonneg c z
  have h3 := gap_nonneg d w
  have h0' := gap_le ha hx
  have h1' := gap_le hb hy
  have h2' := gap_le hc hz
  have h3' := gap_le hd hw
  generalize gap a x = g0 at *
  generalize gap b y = g1 at *
  generalize gap c z = g2 at *
  generalize gap d w = g3 at *
  have s0 := sq_bounds h0 h0'
  have s1 := sq_bounds h1 h1'
  have s2 := sq_bounds h2 h2'
  have s3 := sq_bounds h3 h3'
  unfold M.spec_dist
  by_cases k1 : k = 1
  · subst k1
    have e0 : w64 (0 + g0) = g0 := by rw [w64_id (by omega) (by omega)]; omega
    have e1 : w64 (g0 + g1) = g0 + g1 := w64_id (by omega) (by omega)
    have e2 : w64 (g0 + g1 + g2) = g0 + g1 + g2 := w64_id (by omega) (by omega)
    have e3 : w64 (g0 + g1 + g2 + g3) = g0 + g1 + g2 + g3 := w64_id (by omega) (by omega)
    rw [loop4 (s1 := (g0, 1)) (s2 := (g0 + g1, 2)) (s3 := (g0 + g1 + g2, 3)) (s4 := (g0 + g1 + g2 + g3, 4)) (r := g0 + g1 + g2 + g3)]
    · rfl
    · simp only [l4, d04, gi0, i01, e0, ea, cond_true, Option.bind_some]; rfl
    · simp only [l4, d14, gi1, i12, e1, eb, cond_true, Option.bind_some]; rfl
    · simp only [l4, d24, gi2, i23, e2, ec, cond_true, Option.bind_some]; rfl
    · simp only [l4, d34, gi3, i34, e3, ed, cond_true, Option.bind_some]; rfl
    · simp [l4, d44]
  by_cases k2 : k = 2
  · subst k2
    rw [loop4 (s1 := (max 0 g0, 1)) (s2 := (max (max 0 g0) g1, 2)) (s3 := (max (max (max 0 g0) g1) g2, 3)) (s4 := (max (max (max (max 0 g0) g1) g2) g3, 4)) (r := max (max (max (max 0 g0) g1) g2) g3)]
    · rfl
    · simp only [l4, d04, gi0, i01, ea, cond_true, Option.bind_some]; rfl
    · simp only [l4, d14, gi1, i12, eb, cond_true, Option.bind_some]; rfl
    · simp only [l4, d24, gi2, i23, ec, cond_true, Option.bind_some]; rfl
    · simp only [l4, d34, gi3, i34, ed, cond_true, Option.bind_some]; rfl
    · simp [l4, d44]
  by_cases k3 : k = 3
  · subst k3
    have q0 : w64 (g0 * g0) = g0 * g0 := w64_id (by omega) (by omega)
    have q1 : w64 (g1 * g1) = g1 * g1 := w64_id (by omega) (by omega)
    have q2 : w64 (g2 * g2) = g2 * g2 := w64_id (by omega) (by omega)
    have q3 : w64 (g3 * g3) = g3 * g3 := w64_id (by omega) (by omega)
    have e0 : w64 (0 + g0 * g0) = g0 * g0 := by rw [w64_id (by omega) (by omega)]; omega
    have e1 : w64 (g0 * g0 + g1 * g1) = g0 * g0 + g1 * g1 := w64_id (by omega) (by omega)
    have e2 : w64 (g0 * g0 + g1 * g1 + g2 * g2) = g0 * g0 + g1 * g1 + g2 * g2 := w64_id (by omega) (by omega)
    have e3 : w64 (g0 * g0 + g1 * g1 + g2 * g2 + g3 * g3) = g0 * g0 + g1 * g1 + g2 * g2 + g3 * g3 := w64_id (by omega) (by omega)
    rw [loop4 (s1 := (g0 * g0, 1)) (s2 := (g0 * g0 + g1 * g1, 2)) (s3 := (g0 * g0 + g1 * g1 + g2 * g2, 3)) (s4 := (g0 * g0 + g1 * g1 + g2 * g2 + g3 * g3, 4)) (r := g0 * g0 + g1 * g1 + g2 * g2 + g3 * g3)]
    · rfl
    · simp only [l4, d04, gi0, i01, e0, q0, ea, cond_true, Option.bind_some]; rfl
    · simp only [l4, d14, gi1, i12, e1, q1, eb, cond_true, Option.bind_some]; rfl
    · simp only [l4, d24, gi2, i23, e2, q2, ec, cond_true, Option.bind_some]; rfl
    · simp only [l4, d34, gi3, i34, e3, q3, ed, cond_true, Option.bind_some]; rfl
    · simp [l4, d44]
  · have k4 : k = 4 := by omega
    subst k4
    have e0 : w64 (0 + min g0 1) = min g0 1 := by rw [w64_id (by omega) (by omega)]; omega
    have e1 : w64 (min g0 1 + min g1 1) = min g0 1 + min g1 1 := w64_id (by omega) (by omega)
    have e2 : w64 (min g0 1 + min g1 1 + min g2 1) = min g0 1 + min g1 1 + min g2 1 := w64_id (by omega) (by omega)
    have e3 : w64 (min g0 1 + min g1 1 + min g2 1 + min g3 1) = min g0 1 + min g1 1 + min g2 1 + min g3 1 := w64_id (by omega) (by omega)
    rw [loop4 (s1 := (min g0 1, 1)) (s2 := (min g0 1 + min g1 1, 2)) (s3 := (min g0 1 + min g1 1 + min g2 1, 3)) (s4 := (min g0 1 + min g1 1 + min g2 1 + min g3 1, 4)) (r := min g0 1 + min g1 1 + min g2 1 + min g3 1)]
    · rfl
    · simp only [l4, d04, gi0, i01, e0, ea, t g0 h0, cond_true, Option.bind_some]; simp only [show ((4 : Int) == 1) = false from rfl, show ((4 : Int) == 2) = false from rfl, show ((4 : Int) == 3) = false from rfl, cond_false, Option.bind_some, t g0 h0, e0]
    · simp only [l4, d14, gi1, i12, e1, eb, t g1 h1, cond_true, Option.bind_some]; simp only [show ((4 : Int) == 1) = false from rfl, show ((4 : Int) == 2) = false from rfl, show ((4 : Int) == 3) = false from rfl, cond_false, Option.bind_some, t g1 h1, e1]
    · simp only [l4, d24, gi2, i23, e2, ec, t g2 h2, cond_true, Option.bind_some]; simp only [show ((4 : Int) == 1) = false from rfl, show ((4 : Int) == 2) = false from rfl, show ((4 : Int) == 3) = false from rfl, cond_false, Option.bind_some, t g2 h2, e2]
    · simp only [l4, d34, gi3, i34, e3, ed, t g3 h3, cond_true, Option.bind_some]; simp only [show ((4 : Int) == 1) = false from rfl, show ((4 : Int) == 2) = false from rfl, show ((4 : Int) == 3) = false from rfl, cond_false, Option.bind_some, t g3 h3, e3]
    · simp [l4, d44]
end Go.Vs

namespace Go.Vs

/-- What Distance answers. -/
def dist (k : Int) (a b : List Int) : Int :=
  if isVec a = true ∧ isVec b = true then dk k (gap (a.getD 0 0) (b.getD 0 0)) (gap (a.getD 1 0) (b.getD 1 0)) (gap (a.getD 2 0) (b.getD 2 0)) (gap (a.getD 3 0) (b.getD 3 0)) else -1
theorem dist_vec {k : Int} {a b c d x y z w : Int} (ha : isVec [a, b, c, d] = true) (hb : isVec [x, y, z, w] = true) : dist k [a, b, c, d] [x, y, z, w] = dk k (gap a x) (gap b y) (gap c z) (gap d w) := by
  unfold dist; rw [if_pos ⟨ha, hb⟩]; rfl
theorem isVec_cut {v : List Int} (h : isVec v = true) : ∃ a b c d, v = [a, b, c, d] ∧ Co a ∧ Co b ∧ Co c ∧ Co d := isVec_four h

theorem implDistance_ok (k : Int) {a b : List Int} (ha : a.length < 2000000) (hb : b.length < 2000000) : M.impl_Distance k a b = some (dist k a b) := by
  unfold M.impl_Distance
  simp only [impl_valid a ha, Option.bind_some]
  by_cases va : isVec a = true
  · simp only [va, Bool.not_true, cond_false, impl_valid b hb, Option.bind_some]
    by_cases vb : isVec b = true
    · simp only [vb, Bool.not_true, cond_false]
      obtain ⟨x0, x1, x2, x3, rfl, c0, c1, c2, c3⟩ := isVec_cut va
      obtain ⟨y0, y1, y2, y3, rfl, e0, e1, e2, e3⟩ := isVec_cut vb
      rw [dist_vec va vb, garr_ok (by simp), garr_ok (by simp)]
      simp only [Option.bind_some, List.take_succ_cons, List.take_zero, gapsOf_ok c0 c1 c2 c3 e0 e1 e2 e3]
      rw [distanceOf_ok k (gap_nonneg _ _) (gap_le c0 e0) (gap_nonneg _ _) (gap_le c1 e1) (gap_nonneg _ _) (gap_le c2 e2) (gap_nonneg _ _) (gap_le c3 e3)]
      rfl
    · have vb' : isVec b = false := by simpa using vb
      simp [vb', dist]
  · have va' : isVec a = false := by simpa using va
    simp [va', dist]
theorem specDistance_ok (k : Int) {a b : List Int} (ha : a.length < 2000000) (hb : b.length < 2000000) : M.spec_Distance k a b = some (dist k a b) := by
  unfold M.spec_Distance M.spec_validKind
  simp only [spec_inR, Option.bind_some]
  by_cases hk : 1 ≤ k ∧ k ≤ 4
  · simp only [hk.1, hk.2, decide_true, Bool.and_self, Bool.not_true, cond_false, spec_isVec a ha, Option.bind_some]
    by_cases va : isVec a = true
    · simp only [va, Bool.not_true, cond_false, spec_isVec b hb, Option.bind_some]
      by_cases vb : isVec b = true
      · simp only [vb, Bool.not_true, cond_false]
        obtain ⟨x0, x1, x2, x3, rfl, c0, c1, c2, c3⟩ := isVec_cut va
        obtain ⟨y0, y1, y2, y3, rfl, e0, e1, e2, e3⟩ := isVec_cut vb
        rw [dist_vec va vb, specDist_ok hk c0 c1 c2 c3 e0 e1 e2 e3]; rfl
      · have vb' : isVec b = false := by simpa using vb
        simp [vb', dist]
    · have va' : isVec a = false := by simpa using va
      simp [va', dist]
  · have e : (decide (1 ≤ k) && decide (k ≤ 4)) = false := by simp; omega
    have : dist k a b = -1 := by
      unfold dist
      split
      · unfold dk
        rw [if_neg (by omega), if_neg (by omega), if_neg (by omega), if_neg (by omega)]
      · rfl
    simp [e, this]

theorem kind_ok {k : Nat} (hk : k ≤ 900000) {r : List UInt8 × Int} (hr : Good k r) :
    ∃ x r', M.spec_anyKind r = some (x, r') ∧ Good (k + 1) r' := by
  obtain ⟨x3, r3, h3, g3, m3⟩ := one_ok (by omega) hr (list := [1, 2, 3, 4, 1, 2, 3, 4, 1, 2, 0, 5]) (by simp)
  exact ⟨x3, r3, by unfold M.spec_anyKind; simp only [h3, Option.bind_some], g3⟩
theorem drawDistance_ok (code : List UInt8) : ∃ k a b, M.spec_DrawDistance code = some (k, a, b) ∧ Near a ∧ Near b := by
  obtain ⟨r, h, g⟩ := newReader_ok code
  obtain ⟨k, r1, h1, g1⟩ := kind_ok (by omega) g
  obtain ⟨v, r2, h2, g2, n⟩ := any_ok (by omega) g1
  obtain ⟨u, r3, h3, g3, n'⟩ := any_ok (by omega) g2
  exact ⟨k, v, u, by unfold M.spec_DrawDistance; simp only [h, h1, h2, h3, Option.bind_some], n, n'⟩

/-- Gaps of two vectors. -/
structure Gaps (g0 g1 g2 g3 : Int) : Prop where
  n0 : 0 ≤ g0
  n1 : 0 ≤ g1
  n2 : 0 ≤ g2
  n3 : 0 ≤ g3
  m0 : g0 ≤ 200
  m1 : g1 ≤ 200
  m2 : g2 ≤ 200
  m3 : g3 ≤ 200
theorem dist_neg {k : Int} {a b : List Int} : dist k a b < 0 ∨ (isVec a = true ∧ isVec b = true ∧ 0 ≤ dist k a b) := by
  by_cases h : isVec a = true ∧ isVec b = true
  · rcases Int.lt_or_le (dist k a b) 0 with h' | h'
    · exact .inl h'
    · exact .inr ⟨h.1, h.2, h'⟩
  · exact .inl (by unfold dist; rw [if_neg h]; omega)

end Go.Vs

namespace Go.Vs

end Go.Vs

namespace Go.Vs

theorem isVec_mk {a b c d : Int} (ha : Co a) (hb : Co b) (hc : Co c) (hd : Co d) : isVec [a, b, c, d] = true := by
  rw [isVec_iff]
  refine ⟨rfl, ?_⟩
  simp only [List.mem_cons, List.not_mem_nil, or_false]
  rintro x (rfl | rfl | rfl | rfl)
  · exact ha
  · exact hb
  · exact hc
  · exact hd

end Go.Vs

namespace Go.Vs

end Go.Vs

namespace Go.Vs

end Go.Vs

namespace Go.Vs

end Go.Vs

namespace Go.Vs

theorem gap_self (x : Int) : gap x x = 0 := by unfold gap; omega
theorem one_changed {a c : List Int} (la : a.length < 2000000) (lc : c.length < 2000000) {g : Int} (hg : 0 ≤ g ∧ g ≤ 200)
    (h1 : dist 1 a c = g) (h2 : dist 2 a c = g) (h3 : dist 3 a c = g * g) (h4 : dist 4 a c = min g 1) :
    ((M.impl_Distance 1 a c).bind fun r116 =>
  (M.impl_Distance 2 a c).bind fun r135 =>
  (bif r116 == r135 then
  (M.impl_Distance 3 a c).bind fun r155 =>
  (bif (w64 (r116 * r116)) == r155 then
  (M.impl_Distance 4 a c).bind fun r177 =>
  some (r177 == (min r116 1))
 else
  some false)
 else
  some false)) = some true := by
  have s := sq_bounds hg.1 hg.2
  simp only [implDistance_ok _ la lc, h1, h2, h3, h4, Option.bind_some, BEq.rfl, cond_true]
  rw [w64_id (by omega) (by omega)]
  simp

theorem law_DistanceOne (code : List UInt8) : M.laws_FnDistanceOne code = some true := by
  obtain ⟨k, a, b, h, na, nb⟩ := drawDistance_ok code
  have la : a.length < 2000000 := by have := na.1; omega
  have lb : b.length < 2000000 := by have := nb.1; omega
  unfold M.laws_FnDistanceOne
  by_cases hc : 1048576 < (code.length : Int)
  · simp [hc]
  simp only [hc, decide_false, cond_false, h, Option.bind_some, implDistance_ok k la lb, specDistance_ok k la lb, bne_self_eq_false, BEq.rfl]
  rcases dist_neg (k := k) (a := a) (b := b) with hn | ⟨va, vb, hp⟩
  · simp [hn]
  · have e : decide (dist k a b < 0) = false := by simpa using hp
    simp only [e, cond_false]
    obtain ⟨x0, x1, x2, x3, rfl, c0, c1, c2, c3⟩ := isVec_cut va
    obtain ⟨y0, y1, y2, y3, rfl, e0, e1, e2, e3⟩ := isVec_cut vb
    rw [gapp_ok (by simp)]
    simp only [List.nil_append, Option.bind_some]
    have hk := tmod_range (a := (code.length : Int)) (b := 4) (by omega) (by omega)
    generalize (code.length : Int).tmod 4 = t at *
    have ht : t = 0 ∨ t = 1 ∨ t = 2 ∨ t = 3 := by omega
    rcases ht with rfl | rfl | rfl | rfl
    · simp only [gi0, Option.bind_some]
      have vc := isVec_mk e0 c1 c2 c3
      refine one_changed (g := gap x0 y0) la (by simp) ⟨gap_nonneg _ _, gap_le c0 e0⟩ ?_ ?_ ?_ ?_ <;> refine (dist_vec va vc).trans ?_ <;> have gn := gap_nonneg x0 y0 <;> simp only [gap_self]
      · show gap x0 y0 + 0 + 0 + 0 = _; omega
      · show max (max (max (max 0 (gap x0 y0)) 0) 0) 0 = _; omega
      · show gap x0 y0 * gap x0 y0 + 0 * 0 + 0 * 0 + 0 * 0 = _; omega
      · show min (gap x0 y0) 1 + min 0 1 + min 0 1 + min 0 1 = _; omega
    · simp only [gi1, Option.bind_some]
      have vc := isVec_mk c0 e1 c2 c3
      refine one_changed (g := gap x1 y1) la (by simp) ⟨gap_nonneg _ _, gap_le c1 e1⟩ ?_ ?_ ?_ ?_ <;> refine (dist_vec va vc).trans ?_ <;> have gn := gap_nonneg x1 y1 <;> simp only [gap_self]
      · show 0 + gap x1 y1 + 0 + 0 = _; omega
      · show max (max (max (max 0 0) (gap x1 y1)) 0) 0 = _; omega
      · show 0 * 0 + gap x1 y1 * gap x1 y1 + 0 * 0 + 0 * 0 = _; omega
      · show min 0 1 + min (gap x1 y1) 1 + min 0 1 + min 0 1 = _; omega
    · simp only [gi2, Option.bind_some]
      have vc := isVec_mk c0 c1 e2 c3
      refine one_changed (g := gap x2 y2) la (by simp) ⟨gap_nonneg _ _, gap_le c2 e2⟩ ?_ ?_ ?_ ?_ <;> refine (dist_vec va vc).trans ?_ <;> have gn := gap_nonneg x2 y2 <;> simp only [gap_self]
      · show 0 + 0 + gap x2 y2 + 0 = _; omega
      · show max (max (max (max 0 0) 0) (gap x2 y2)) 0 = _; omega
      · show 0 * 0 + 0 * 0 + gap x2 y2 * gap x2 y2 + 0 * 0 = _; omega
      · show min 0 1 + min 0 1 + min (gap x2 y2) 1 + min 0 1 = _; omega
    · simp only [gi3, Option.bind_some]
      have vc := isVec_mk c0 c1 c2 e3
      refine one_changed (g := gap x3 y3) la (by simp) ⟨gap_nonneg _ _, gap_le c3 e3⟩ ?_ ?_ ?_ ?_ <;> refine (dist_vec va vc).trans ?_ <;> have gn := gap_nonneg x3 y3 <;> simp only [gap_self]
      · show 0 + 0 + 0 + gap x3 y3 = _; omega
      · show max (max (max (max 0 0) 0) 0) (gap x3 y3) = _; omega
      · show 0 * 0 + 0 * 0 + 0 * 0 + gap x3 y3 * gap x3 y3 = _; omega
      · show min 0 1 + min 0 1 + min 0 1 + min (gap x3 y3) 1 = _; omega
end Go.Vs
