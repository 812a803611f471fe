/- Plain facts of what the functions compute. -/
import Derived.Test.YtgokepoinohioacBoundsOfPutEng1
import Derived.Test.YtgokepoinohioacBoundsOfPutLib1
set_option linter.unusedVariables false
set_option linter.unusedSimpArgs false
namespace Go.Vs

theorem loop_run {S R : Type} {f : S → Option (S ⊕ R)} {r : R} (k : Nat) (st : Nat → S) (hs : ∀ i, i < k → f (st i) = some (.inl (st (i + 1)))) (he : f (st k) = some (.inr r)) : loopM f (st 0) = some r := by
  induction k generalizing st with
  | zero => rw [loopM_eq, he]; rfl
  | succ k ih =>
    rw [loopM_eq, hs 0 (by omega)]
    exact ih (fun i => st (i + 1)) (fun i hi => hs (i + 1) (by omega)) he

theorem w64_nat {n : Nat} (h : n < 9223372036854775808) : w64 (n : Int) = n := w64_id (by omega) (by omega)
theorem gidx_nat {α : Type} {xs : List α} {i : Nat} (h : i < xs.length) : gidx xs (i : Int) = some xs[i] := by
  unfold gidx
  rw [if_pos (by omega)]
  simp [h]
theorem gidx_lt' {α : Type} {xs : List α} {a : Int} (h0 : 0 ≤ a) (h : a < xs.length) : ∃ e, gidx xs a = some e ∧ e ∈ xs := by
  obtain ⟨n, rfl⟩ := Int.eq_ofNat_of_zero_le h0
  have hn : n < xs.length := by omega
  exact ⟨xs[n], gidx_nat hn, List.getElem_mem _⟩
theorem gapp_ok {α : Type} {xs ys : List α} (h : xs.length + ys.length ≤ 2147483648) : gapp xs ys = some (xs ++ ys) := by unfold gapp; rw [if_pos h]
theorem grem_ok {a b : Int} (h : b ≠ 0) : grem a b = some (a.tmod b) := by unfold grem; rw [if_neg h]
theorem gquo_ok {a b : Int} (h : b ≠ 0) : gquo a b = some (w64 (a.tdiv b)) := by unfold gquo; rw [if_neg h]
theorem gslice_ok {α : Type} {xs : List α} {l h : Int} (h0 : 0 ≤ l) (h1 : l ≤ h) (h2 : h ≤ xs.length) : gslice xs l h = some ((xs.take h.toNat).drop l.toNat) := by
  unfold gslice; rw [if_pos ⟨h0, h1, h2⟩]
theorem gmake_ok {α : Type} {k : Int} {z : α} (h0 : 0 ≤ k) (h1 : k ≤ 2147483648) : gmake k z = some (List.replicate k.toNat z) := by unfold gmake; rw [if_pos ⟨h0, h1⟩]
theorem garr_ok {α : Type} {k : Nat} {xs : List α} (h : k ≤ xs.length) : garr k xs = some (xs.take k) := by unfold garr; rw [if_pos h]

theorem tmod_range {a b : Int} (ha : 0 ≤ a) (hb : 0 < b) : 0 ≤ a.tmod b ∧ a.tmod b < b := by
  rw [Int.tmod_eq_emod_of_nonneg ha]
  exact ⟨Int.emod_nonneg _ (by omega), Int.emod_lt_of_pos _ hb⟩
theorem tdiv_range {a b : Int} (ha : 0 ≤ a) (hb : 0 < b) : 0 ≤ a.tdiv b ∧ a.tdiv b ≤ a := by
  rw [Int.tdiv_eq_ediv_of_nonneg ha]
  exact ⟨Int.ediv_nonneg ha (by omega), Int.ediv_le_self _ ha⟩
theorem gxor_range {a b : Int} (ha : 0 ≤ a) (ha' : a < 4611686018427387904) (hb : 0 ≤ b) (hb' : b < 4611686018427387904) : 0 ≤ gxor a b ∧ gxor a b < 4611686018427387904 := by
  obtain ⟨m, rfl⟩ := Int.eq_ofNat_of_zero_le ha
  obtain ⟨n, rfl⟩ := Int.eq_ofNat_of_zero_le hb
  have h1 : (BitVec.ofInt 64 (m : Int) ^^^ BitVec.ofInt 64 (n : Int)).toNat = m ^^^ n := by
    rw [BitVec.toNat_xor]
    have e : ∀ k : Nat, k < 4611686018427387904 → (BitVec.ofInt 64 (k : Int)).toNat = k := by
      intro k hk
      simp only [BitVec.toNat_ofInt]
      omega
    rw [e m (by omega), e n (by omega)]
  have h2 : m ^^^ n < 2 ^ 62 := Nat.xor_lt_two_pow (by omega) (by omega)
  have h3 : (2 : Nat) ^ 62 = 4611686018427387904 := by decide
  unfold gxor
  rw [h1]
  have : w64 ((m ^^^ n : Nat) : Int) = (m ^^^ n : Nat) := w64_nat (by omega)
  show 0 ≤ w64 _ ∧ w64 _ < _
  rw [this]
  omega
/-- A loop that looks at each element, and leaves at the first that fails. -/
theorem loop_all {α R : Type} {xs : List α} {P : α → Bool} {r : R} {f : Int → Option (Int ⊕ (Unit ⊕ R))} (hs : ∀ i (h : i < xs.length), f (i : Int) = some (if P xs[i] then .inl ((i : Int) + 1) else .inr (.inr r))) (he : f (xs.length : Int) = some (.inr (.inl ()))) :
    loopM f 0 = some (if xs.all P then .inl () else .inr r) := by
  have key : ∀ m k : Nat, k + m = xs.length → loopM f (k : Int) = some (if (xs.drop k).all P then .inl () else .inr r) := by
    intro m
    induction m with
    | zero =>
      intro k hk
      have : k = xs.length := by omega
      subst this
      rw [loopM_eq, he]; simp [selim]
    | succ m ih =>
      intro k hk
      have hlt : k < xs.length := by omega
      rw [loopM_eq, hs k hlt, List.drop_eq_getElem_cons hlt]
      by_cases hp : P xs[k] = true
      · rw [if_pos hp]
        have := ih (k + 1) (by omega)
        simp only [Int.natCast_add, Int.cast_ofNat_Int] at this
        simp only [List.all_cons, hp, Bool.true_and, selim, this, Option.bind_some]
      · rw [if_neg hp]
        simp only [List.all_cons, Bool.not_eq_true] at hp ⊢
        simp only [hp, Bool.false_and, selim, Option.bind_some]; rfl
  have := key xs.length 0 (by omega)
  simpa using this
end Go.Vs

namespace Go.Vs

/-- A reader that has been asked at most k times. -/
def Good (k : Nat) (r : List UInt8 × Int) : Prop := r.1.length ≤ 2000 ∧ 0 ≤ r.2 ∧ r.2 ≤ k
theorem Good.mono {k m : Nat} {r : List UInt8 × Int} (h : Good k r) (hm : k ≤ m) : Good m r := ⟨h.1, h.2.1, by have := h.2.2; omega⟩

theorem pick_ok {k : Nat} (hk : k ≤ 1000000) {r : List UInt8 × Int} (hr : Good k r) (n : Int) :
    ∃ x r', M.spec_reader_pick r n = some (x, r') ∧ Good (k + 1) r' ∧ 0 ≤ x ∧ (1 ≤ n → x < n) ∧ (n < 1 → x = 0) := by
  obtain ⟨b, p⟩ := r
  obtain ⟨h1, h2, h3⟩ := hr
  simp only at h1 h2 h3
  have e1 : w64 (p + 1) = p + 1 := w64_id (by omega) (by omega)
  have e2 : w64 (p + 1 - 1) = p := by rw [w64_id (by omega) (by omega)]; omega
  have hgood : Good (k + 1) (b, p + 1) := ⟨h1, by simp only; omega, by simp only; omega⟩
  unfold M.spec_reader_pick
  simp only [e1, e2]
  by_cases hn : n < 1
  · refine ⟨0, (b, p + 1), ?_, hgood, by omega, fun h => by omega, fun _ => rfl⟩
    simp [hn]
  · by_cases hb : b.length = 0
    · refine ⟨0, (b, p + 1), ?_, hgood, by omega, fun h => by omega, fun _ => rfl⟩
      simp [hn, hb]
    · have hbl : (b.length : Int) ≠ 0 := by omega
      have hbb : ((b.length : Int) == 0) = false := by simpa using hb
      simp only [hn, decide_false, cond_false, hbb, Option.bind_some]
      by_cases hp : p < (b.length : Int)
      · obtain ⟨e, he, _⟩ := gidx_lt' (xs := b) h2 hp
        have hE : w64 (e.toNat : Int) = e.toNat := w64_nat (by have := e.toNat_lt; omega)
        have hr := tmod_range (a := (e.toNat : Int)) (b := n) (by omega) (by omega)
        refine ⟨_, (b, p + 1), ?_, hgood, hr.1, fun _ => hr.2, fun h => h.elim⟩
        simp only [hp, decide_true, cond_true, he, Option.bind_some, hE, grem_ok (show n ≠ 0 by omega)]
      · simp only [hp, decide_false, cond_false]
        have hbp : 0 < (b.length : Int) := by omega
        have r1 := tmod_range (a := p) h2 hbp
        have e7 : w64 (w64 (p * 7) + 3) = p * 7 + 3 := by rw [w64_id (n := p * 7) (by omega) (by omega), w64_id (by omega) (by omega)]
        have r2 := tmod_range (a := p * 7 + 3) (b := (b.length : Int)) (by omega) hbp
        obtain ⟨x, hx, _⟩ := gidx_lt' (xs := b) r1.1 r1.2
        obtain ⟨y, hy, _⟩ := gidx_lt' (xs := b) r2.1 r2.2
        have hX : (x.toNat : Int) < 256 := by have := x.toNat_lt; omega
        have hY : (y.toNat : Int) < 256 := by have := y.toNat_lt; omega
        have r3 := tdiv_range (a := p) (b := (b.length : Int)) h2 hbp
        simp only [grem_ok hbl, Option.bind_some, hx, e7, hy, gquo_ok hbl]
        generalize hq : w64 (p.tdiv (b.length : Int)) = q
        have hq' : 0 ≤ q ∧ q ≤ 1000000 := by rw [← hq, w64_id (by omega) (by omega)]; omega
        have eX : w64 (x.toNat : Int) = x.toNat := w64_id (by omega) (by omega)
        have eY : w64 (y.toNat : Int) = y.toNat := w64_id (by omega) (by omega)
        simp only [eX, eY]
        have eX' : w64 ((x.toNat : Int) * 131) = x.toNat * 131 := w64_id (by omega) (by omega)
        have eY' : w64 ((y.toNat : Int) * 1117) = y.toNat * 1117 := w64_id (by omega) (by omega)
        have eP : w64 (p * 29) = p * 29 := w64_id (by omega) (by omega)
        have eQ : w64 (q * 53) = q * 53 := w64_id (by omega) (by omega)
        simp only [eX', eY', eP, eQ]
        have eA : w64 ((x.toNat : Int) * 131 + y.toNat * 1117) = x.toNat * 131 + y.toNat * 1117 := w64_id (by omega) (by omega)
        simp only [eA]
        have eB : w64 ((x.toNat : Int) * 131 + y.toNat * 1117 + p * 29) = x.toNat * 131 + y.toNat * 1117 + p * 29 := w64_id (by omega) (by omega)
        simp only [eB]
        have eC : w64 ((x.toNat : Int) * 131 + y.toNat * 1117 + p * 29 + q * 53) = x.toNat * 131 + y.toNat * 1117 + p * 29 + q * 53 := w64_id (by omega) (by omega)
        simp only [eC]
        generalize hZ : (x.toNat : Int) * 131 + y.toNat * 1117 + p * 29 + q * 53 = Z
        have hZ' : 0 ≤ Z ∧ Z ≤ 1000000000 := by omega
        have r4 := tdiv_range (a := Z) (b := 64) hZ'.1 (by omega)
        have eD : w64 (Z.tdiv 64) = Z.tdiv 64 := w64_id (by omega) (by omega)
        rw [eD]
        have r5 := gxor_range (a := Z) (b := Z.tdiv 64) (by omega) (by omega) (by omega) (by omega)
        have r6 := tmod_range (a := gxor Z (Z.tdiv 64)) (b := n) r5.1 (by omega)
        refine ⟨_, (b, p + 1), ?_, hgood, r6.1, fun _ => r6.2, fun h => h.elim⟩
        simp only [grem_ok (show n ≠ 0 by omega), Option.bind_some]

theorem one_ok {k : Nat} (hk : k ≤ 1000000) {r : List UInt8 × Int} (hr : Good k r) {list : List Int} (hl : list ≠ []) :
    ∃ x r', M.spec_reader_one r list = some (x, r') ∧ Good (k + 1) r' ∧ x ∈ list := by
  obtain ⟨x, r', h1, h2, h3, h4, _⟩ := pick_ok hk hr (list.length : Int)
  have hlen : 1 ≤ (list.length : Int) := by
    have : list.length ≠ 0 := by simpa using hl
    omega
  obtain ⟨e, he, hm⟩ := gidx_lt' h3 (h4 hlen)
  refine ⟨e, r', ?_, h2, hm⟩
  unfold M.spec_reader_one
  simp only [h1, Option.bind_some, he]

theorem coord_ok {k : Nat} (hk : k ≤ 900000) {r : List UInt8 × Int} (hr : Good k r) :
    ∃ x r', M.spec_someCoord r = some (x, r') ∧ Good (k + 3) r' ∧ -100 ≤ x ∧ x ≤ 100 := by
  obtain ⟨x1, r1, h1, g1, a1, b1, _⟩ := pick_ok (by omega) hr 201
  obtain ⟨x2, r2, h2, g2, a2, b2, _⟩ := pick_ok (by omega) g1 21
  have b1 := b1 (by omega)
  have b2 := b2 (by omega)
  have e1 : w64 (x1 - 100) = x1 - 100 := w64_id (by omega) (by omega)
  have e2 : w64 (x2 - 10) = x2 - 10 := w64_id (by omega) (by omega)
  obtain ⟨x3, r3, h3, g3, m3⟩ := one_ok (by omega) g2 (list := [0, 1, -1, 5, -7, 10, 3, 100, -100, x1 - 100, x2 - 10]) (by simp)
  refine ⟨x3, r3, ?_, g3, ?_⟩
  · unfold M.spec_someCoord
    simp only [h1, Option.bind_some, h2, e1, e2, h3]
  · simp only [List.mem_cons, List.not_mem_nil, or_false] at m3
    omega

/-- A valid vector. -/
def isVec (v : List Int) : Bool := decide (v.length = 4) && v.all fun x => decide (-100 ≤ x) && decide (x ≤ 100)
theorem isVec_iff {v : List Int} : isVec v = true ↔ v.length = 4 ∧ ∀ x ∈ v, -100 ≤ x ∧ x ≤ 100 := by
  unfold isVec; simp
theorem isVec_four {v : List Int} (h : isVec v = true) : ∃ a b c d, v = [a, b, c, d] ∧ (-100 ≤ a ∧ a ≤ 100) ∧ (-100 ≤ b ∧ b ≤ 100) ∧ (-100 ≤ c ∧ c ≤ 100) ∧ (-100 ≤ d ∧ d ≤ 100) := by
  obtain ⟨h1, h2⟩ := isVec_iff.1 h
  match v, h1 with
  | [a, b, c, d], _ => exact ⟨a, b, c, d, rfl, h2 a (by simp), h2 b (by simp), h2 c (by simp), h2 d (by simp)⟩

theorem vector_ok {k : Nat} (hk : k ≤ 800000) {r : List UInt8 × Int} (hr : Good k r) :
    ∃ v r', M.spec_someVector r = some (v, r') ∧ Good (k + 12) r' ∧ isVec v = true := by
  obtain ⟨x1, r1, h1, g1, a1, b1⟩ := coord_ok (by omega) hr
  obtain ⟨x2, r2, h2, g2, a2, b2⟩ := coord_ok (by omega) g1
  obtain ⟨x3, r3, h3, g3, a3, b3⟩ := coord_ok (by omega) g2
  obtain ⟨x4, r4, h4, g4, a4, b4⟩ := coord_ok (by omega) g3
  refine ⟨[x1, x2, x3, x4], r4, ?_, g4, isVec_iff.2 ⟨rfl, by simp only [List.mem_cons, List.not_mem_nil, or_false]; rintro x (rfl | rfl | rfl | rfl) <;> omega⟩⟩
  have e : ∀ n : Nat, n < 10 → w64 ((n : Int) + 1) = (n : Int) + 1 := fun n hn => w64_id (by omega) (by omega)
  have e0 : w64 ((0 : Int) + 1) = 1 := e 0 (by omega)
  have e1 : w64 ((1 : Int) + 1) = 2 := e 1 (by omega)
  have e2 : w64 ((2 : Int) + 1) = 3 := e 2 (by omega)
  have e3 : w64 ((3 : Int) + 1) = 4 := e 3 (by omega)
  have ga : ∀ (xs : List Int) (x : Int), xs.length < 10 → gapp xs [x] = some (xs ++ [x]) := fun xs x hx => gapp_ok (by simp; omega)
  unfold M.spec_someVector
  rw [loopM_eq]
  simp only [show decide ((0 : Int) < 4) = true from rfl, cond_true, h1, Option.bind_some, ga [] x1 (by simp), selim, e0, List.nil_append]
  rw [loopM_eq]
  simp only [show decide ((1 : Int) < 4) = true from rfl, cond_true, h2, Option.bind_some, ga [x1] x2 (by simp), selim, e1, List.cons_append, List.nil_append]
  rw [loopM_eq]
  simp only [show decide ((2 : Int) < 4) = true from rfl, cond_true, h3, Option.bind_some, ga [x1, x2] x3 (by simp), selim, e2, List.cons_append, List.nil_append]
  rw [loopM_eq]
  simp only [show decide ((3 : Int) < 4) = true from rfl, cond_true, h4, Option.bind_some, ga [x1, x2, x3] x4 (by simp), selim, e3, List.cons_append, List.nil_append]
  rw [loopM_eq]
  simp only [show decide ((4 : Int) < 4) = false from rfl, cond_false, Option.bind_some, selim]
end Go.Vs
namespace Go.Vs
/-- A vector that may be drawn. -/
def Near (v : List Int) : Prop := v.length ≤ 5 ∧ ∀ x ∈ v, -101 ≤ x ∧ x ≤ 101
theorem near_of {v : List Int} (h : isVec v = true) : Near v := by
  obtain ⟨h1, h2⟩ := isVec_iff.1 h
  exact ⟨by omega, fun x hx => by have := h2 x hx; omega⟩
theorem copy_ok {v : List Int} (h : v.length ≤ 1000000) : M.spec_copyInts v = some v := by
  unfold M.spec_copyInts
  rw [gapp_ok (by simp; omega)]; rfl
theorem spoil_ok {k : Nat} (hk : k ≤ 700000) {r : List UInt8 × Int} (hr : Good k r) {v : List Int} (hv : isVec v = true) :
    ∃ u r', M.spec_reader_spoil r v 101 = some (u, r') ∧ Good (k + 3) r' ∧ Near u := by
  obtain ⟨hl, hb⟩ := isVec_iff.1 hv
  obtain ⟨x1, r1, h1, g1, a1, b1, _⟩ := pick_ok (by omega) hr 20
  unfold M.spec_reader_spoil
  simp only [copy_ok (v := v) (by omega), Option.bind_some, h1]
  by_cases c0 : x1 = 0
  · refine ⟨v ++ [101], r1, ?_, g1.mono (by omega), ?_⟩
    · simp [c0, gapp_ok (xs := v) (ys := [101]) (by simp; omega)]
    · refine ⟨by simp; omega, fun x hx => ?_⟩
      rcases List.mem_append.1 hx with h | h
      · have := hb x h; omega
      · simp at h; omega
  · have e0 : (x1 == 0) = false := by simpa using c0
    simp only [e0, cond_false]
    have hpos : decide (0 < (v.length : Int)) = true := by simp; omega
    have hp' : 0 < v.length := by omega
    by_cases c1 : x1 = 1
    · refine ⟨v.drop 1, r1, ?_, g1.mono (by omega), by simp; omega, fun x hx => ?_⟩
      · have : gslice v 1 (v.length : Int) = some (v.drop 1) := by
          rw [gslice_ok (by omega) (by omega) (by omega)]; simp
        simp [c1, hp', this]
      · have := hb x (List.mem_of_mem_drop hx); omega
    · have e1 : (x1 == 1) = false := by simpa using c1
      simp only [e1, cond_false]
      by_cases c2 : x1 = 2
      · obtain ⟨i, r2, h2, g2, a2, b2, _⟩ := pick_ok (by omega) g1 (v.length : Int)
        obtain ⟨y, r3, h3, g3, m3⟩ := one_ok (by omega) g2 (list := [-1, 101, 0, 1]) (by simp)
        have b2 := b2 (by omega)
        obtain ⟨z, hz, _⟩ := gidx_lt' (xs := v) a2 b2
        refine ⟨v.set i.toNat y, r3, ?_, g3, by simp; omega, fun x hx => ?_⟩
        · simp [c2, hp', h2, h3, hz]
        · rcases List.mem_or_eq_of_mem_set hx with h | h
          · have := hb x h; omega
          · subst h
            simp only [List.mem_cons, List.not_mem_nil, or_false] at m3
            omega
      · have e2 : (x1 == 2) = false := by simpa using c2
        exact ⟨v, r1, by simp [e2], g1.mono (by omega), near_of hv⟩
theorem any_ok {k : Nat} (hk : k ≤ 600000) {r : List UInt8 × Int} (hr : Good k r) :
    ∃ v r', M.spec_anyVector r = some (v, r') ∧ Good (k + 16) r' ∧ Near v := by
  obtain ⟨x1, r1, h1, g1, a1, b1, _⟩ := pick_ok (by omega) hr 10
  obtain ⟨v, r2, h2, g2, hv⟩ := vector_ok (by omega) g1
  unfold M.spec_anyVector
  simp only [h1, Option.bind_some]
  by_cases c0 : x1 = 0
  · obtain ⟨u, r3, h3, g3, hu⟩ := spoil_ok (by omega) g2 hv
    exact ⟨u, r3, by simp [c0, h2, h3], g3, hu⟩
  · have e0 : (x1 == 0) = false := by simpa using c0
    exact ⟨v, r2, by simp [e0, h2], g2.mono (by omega), near_of hv⟩
theorem newReader_ok (code : List UInt8) : ∃ r, M.spec_newReader code = some r ∧ Good 0 r := by
  unfold M.spec_newReader
  by_cases h : 2000 < (code.length : Int)
  · refine ⟨(code.take 2000, 0), ?_, by simp; omega, by simp, by simp⟩
    have : gslice code 0 2000 = some (code.take 2000) := by
      rw [gslice_ok (by omega) (by omega) (by omega)]; simp
    simp [h, this]
  · exact ⟨(code, 0), by simp [h], by simp only; omega, by simp, by simp⟩

theorem implCoords_ok (v : List Int) (hb : v.length < 2000000) : M.impl_validCoords v = some (v.all fun x => decide (-100 ≤ x) && decide (x ≤ 100)) := by
  unfold M.impl_validCoords
  rw [loop_all (xs := v) (P := fun x => decide (-100 ≤ x) && decide (x ≤ 100)) (r := false)]
  · by_cases ha : (v.all fun x => decide (-100 ≤ x) && decide (x ≤ 100)) = true
    · simp only [ha, if_true, Option.bind_some, selim]
    · simp only [Bool.not_eq_true] at ha
      simp only [ha]; simp [selim]
  · intro i h
    have e1 : decide ((i : Int) < (v.length : Int)) = true := by simpa using h
    have e2 : w64 ((i : Int) + 1) = (i : Int) + 1 := w64_id (by omega) (by omega)
    simp only [e1, cond_true, gidx_nat h, Option.bind_some, e2]
    by_cases c1 : v[i] < -100
    · have c2 : ¬ (-100 ≤ v[i]) := by omega
      simp [c1, c2]
    · by_cases c3 : 100 < v[i]
      · have c4 : ¬ (v[i] ≤ 100) := by omega
        simp [c1, c3, c4]
      · simp [c1, c3, show -100 ≤ v[i] by omega, show v[i] ≤ 100 by omega]
  · simp
theorem impl_valid (v : List Int) (hb : v.length < 2000000) : M.impl_ValidVector v = some (isVec v) := by
  unfold M.impl_ValidVector
  simp only [implCoords_ok v hb, Option.bind_some]
  unfold isVec
  by_cases hl : v.length = 4
  · have e : ((v.length : Int) == 4) = true := by simp; omega
    rw [e, cond_true, decide_eq_true hl, Bool.true_and]
  · have e : ((v.length : Int) == 4) = false := by simp; omega
    rw [e, cond_false, decide_eq_false hl, Bool.false_and]
theorem spec_inR (n l h : Int) : M.spec_inRange n l h = some (decide (l ≤ n) && decide (n ≤ h)) := by
  unfold M.spec_inRange
  by_cases h1 : l ≤ n <;> simp [h1]
theorem spec_all (v : List Int) (l h : Int) (hb : v.length < 2000000) : M.spec_allIn v l h = some (v.all fun x => decide (l ≤ x) && decide (x ≤ h)) := by
  unfold M.spec_allIn
  rw [loop_all (xs := v) (P := fun x => decide (l ≤ x) && decide (x ≤ h)) (r := false)]
  · by_cases ha : (v.all fun x => decide (l ≤ x) && decide (x ≤ h)) = true
    · simp only [ha, if_true, Option.bind_some, selim]
    · simp only [Bool.not_eq_true] at ha
      simp [ha, selim]
  · intro i hi
    have e1 : decide ((i : Int) < (v.length : Int)) = true := by simpa using hi
    have e2 : w64 ((i : Int) + 1) = (i : Int) + 1 := w64_id (by omega) (by omega)
    simp only [e1, cond_true, gidx_nat hi, Option.bind_some, e2, spec_inR]
    cases (decide (l ≤ v[i]) && decide (v[i] ≤ h)) <;> rfl
  · simp
theorem spec_isVec (v : List Int) (hb : v.length < 2000000) : M.spec_isVector v = some (isVec v) := by
  unfold M.spec_isVector
  by_cases hl : v.length = 4
  · have e : ((v.length : Int) == 4) = true := by simp; omega
    simp [e, spec_all v _ _ hb, isVec, hl]
  · have e : ((v.length : Int) == 4) = false := by simp; omega
    simp [e, isVec, hl]
end Go.Vs

namespace Go.Vs

end Go.Vs

namespace Go.Vs

theorem loop4 {S R : Type} {f : S → Option (S ⊕ R)} {s0 s1 s2 s3 s4 : S} {r : R} (h0 : f s0 = some (.inl s1)) (h1 : f s1 = some (.inl s2)) (h2 : f s2 = some (.inl s3)) (h3 : f s3 = some (.inl s4)) (h4 : f s4 = some (.inr r)) : loopM f s0 = some r := by
  rw [loopM_eq, h0, Option.bind_some, selim, loopM_eq, h1, Option.bind_some, selim, loopM_eq, h2, Option.bind_some, selim, loopM_eq, h3, Option.bind_some, selim, loopM_eq, h4]; rfl
theorem gi0 {α : Type} {a : α} {l : List α} : gidx (a :: l) 0 = some a := gidx_nat (i := 0) (by simp)
theorem gi1 {α : Type} {a b : α} {l : List α} : gidx (a :: b :: l) 1 = some b := gidx_nat (i := 1) (by simp)
theorem gi2 {α : Type} {a b c : α} {l : List α} : gidx (a :: b :: c :: l) 2 = some c := gidx_nat (i := 2) (by simp)
theorem gi3 {α : Type} {a b c d : α} {l : List α} : gidx (a :: b :: c :: d :: l) 3 = some d := gidx_nat (i := 3) (by simp)
theorem i01 : w64 ((0 : Int) + 1) = 1 := w64_id (by omega) (by omega)
theorem i12 : w64 ((1 : Int) + 1) = 2 := w64_id (by omega) (by omega)
theorem i23 : w64 ((2 : Int) + 1) = 3 := w64_id (by omega) (by omega)
theorem i34 : w64 ((3 : Int) + 1) = 4 := w64_id (by omega) (by omega)
theorem d04 : decide ((0 : Int) < 4) = true := rfl
theorem d14 : decide ((1 : Int) < 4) = true := rfl
theorem d24 : decide ((2 : Int) < 4) = true := rfl
theorem d34 : decide ((3 : Int) < 4) = true := rfl
theorem d44 : decide ((4 : Int) < 4) = false := rfl
theorem l4 {α : Type} {a b c d : α} : (([a, b, c, d] : List α).length : Int) = 4 := rfl

end Go.Vs

namespace Go.Vs

theorem equalInts_ok {a b : List Int} (ha : a.length < 2000000) : M.laws_equalInts a b = some (decide (a = b)) := by
  unfold M.laws_equalInts
  by_cases hl : a.length = b.length
  · have e : ((a.length : Int) != (b.length : Int)) = false := by simp; omega
    simp only [e, cond_false]
    rw [loop_all (xs := a.zip b) (P := fun p => p.1 == p.2) (r := false)]
    · by_cases h : a = b
      · subst h
        have : (a.zip a).all (fun p => p.1 == p.2) = true := by
          rw [List.all_eq_true]; intro p hp
          obtain ⟨i, hi, rfl⟩ := List.mem_iff_getElem.1 hp
          simp
        rw [if_pos this]; simp [selim]
      · have : ¬ (a.zip b).all (fun p => p.1 == p.2) = true := by
          intro hh; apply h
          apply List.ext_getElem hl
          intro i h1 h2
          rw [List.all_eq_true] at hh
          have := hh (a[i], b[i]) (List.mem_iff_getElem.2 ⟨i, by simp; omega, by simp⟩)
          simpa using this
        rw [if_neg this]; simp [selim, h]
    · intro i hi
      have hi1 : i < a.length := by simp at hi; omega
      have hi2 : i < b.length := by simp at hi; omega
      have e1 : decide ((i : Int) < (a.length : Int)) = true := by simpa using hi1
      have e2 : w64 ((i : Int) + 1) = (i : Int) + 1 := w64_id (by omega) (by omega)
      simp only [e1, cond_true, gidx_nat hi1, gidx_nat hi2, Option.bind_some, e2, List.getElem_zip]
      by_cases hc : a[i] = b[i]
      · simp [hc]
      · have hb : (a[i] == b[i]) = false := by simpa using hc
        have hb' : (a[i] != b[i]) = true := by simpa using hc
        simp [hb, hb']
    · have : (a.zip b).length = a.length := by simp; omega
      rw [this]; simp
  · have e : ((a.length : Int) != (b.length : Int)) = true := by simp; omega
    have : a ≠ b := fun h => hl (by rw [h])
    simp [e, this]

/-- Gaps of two vectors. -/
structure Gaps (g0 g1 g2 g3 : Int) : Prop where
  n0 : 0 ≤ g0
  n1 : 0 ≤ g1
  n2 : 0 ≤ g2
  n3 : 0 ≤ g3
  m0 : g0 ≤ 200
  m1 : g1 ≤ 200
  m2 : g2 ≤ 200
  m3 : g3 ≤ 200
end Go.Vs

namespace Go.Vs

end Go.Vs

namespace Go.Vs

end Go.Vs

namespace Go.Vs

theorem gidx_getD {v : List Int} {j : Nat} (h : j < v.length) : gidx v (j : Int) = some (v.getD j 0) := by
  rw [gidx_nat h]; simp [List.getD, h]
/-- The least and the greatest of a coordinate. -/
def lowAt (j : Nat) (x : Int) (l : List (List Int)) : Int := l.foldl (fun m v => min m (v.getD j 0)) x
def highAt (j : Nat) (x : Int) (l : List (List Int)) : Int := l.foldl (fun m v => max m (v.getD j 0)) x
theorem lowAt_le {j : Nat} {l : List (List Int)} : ∀ {x : Int}, lowAt j x l ≤ x ∧ ∀ v ∈ l, lowAt j x l ≤ v.getD j 0 := by
  induction l with
  | nil => intro x; simp [lowAt]
  | cons v l ih =>
    intro x
    have := ih (x := min x (v.getD j 0))
    have e : lowAt j x (v :: l) = lowAt j (min x (v.getD j 0)) l := rfl
    rw [e]
    refine ⟨by omega, fun u hu => ?_⟩
    rcases List.mem_cons.1 hu with h | h
    · subst h; omega
    · exact this.2 u h
theorem le_highAt {j : Nat} {l : List (List Int)} : ∀ {x : Int}, x ≤ highAt j x l ∧ ∀ v ∈ l, v.getD j 0 ≤ highAt j x l := by
  induction l with
  | nil => intro x; simp [highAt]
  | cons v l ih =>
    intro x
    have := ih (x := max x (v.getD j 0))
    have e : highAt j x (v :: l) = highAt j (max x (v.getD j 0)) l := rfl
    rw [e]
    refine ⟨by omega, fun u hu => ?_⟩
    rcases List.mem_cons.1 hu with h | h
    · subst h; omega
    · exact this.2 u h
end Go.Vs

namespace Go.Vs

end Go.Vs

namespace Go.Vs

end Go.Vs

namespace Go.Vs

end Go.Vs

namespace Go.Vs

abbrev Item := Int × (List Int) × Int
/-- A valid item. -/
def isItem (x : Item) : Bool := (decide (1 ≤ x.1) && decide (x.1 ≤ 99)) && (isVec x.2.1 && (decide (0 ≤ x.2.2) && decide (x.2.2 ≤ 15)))
/-- Valid items, with ascending keys above p. -/
def okFrom : Int → List Item → Bool
  | _, [] => true
  | p, x :: l => (isItem x && decide (p < x.1)) && okFrom x.1 l
def okStore (l : List Item) : Bool := decide (l.length ≤ 16) && okFrom 0 l

theorem implItem_ok {x : Item} (h : x.2.1.length < 2000000) : M.impl_validItem (x.1, x.2.1, x.2.2) = some (isItem x) := by
  unfold M.impl_validItem M.impl_validKey M.impl_validTags isItem
  simp only [impl_valid x.2.1 h, Option.bind_some]
  by_cases h1 : 1 ≤ x.1
  · by_cases h2 : x.1 ≤ 99
    · by_cases h3 : isVec x.2.1 = true
      · by_cases h4 : 0 ≤ x.2.2
        · simp [h1, h2, h3, h4]
        · simp [h1, h2, h3, h4]
      · simp only [Bool.not_eq_true] at h3
        simp [h1, h2, h3]
    · simp [h1, h2]
  · simp [h1]
theorem specItem_ok {x : Item} (h : x.2.1.length < 2000000) : M.spec_validItem (x.1, x.2.1, x.2.2) = some (isItem x) := by
  unfold M.spec_validItem isItem
  simp only [spec_inR, spec_isVec x.2.1 h, Option.bind_some]
  cases (decide (1 ≤ x.1) && decide (x.1 ≤ 99)) <;> cases isVec x.2.1 <;> simp

theorem implStore_ok {l : List Item} (hb : ∀ x ∈ l, x.2.1.length < 2000000) : M.impl_ValidStore l = some (okStore l) := by
  unfold M.impl_ValidStore okStore
  by_cases hl : 16 < (l.length : Int)
  · have : ¬ l.length ≤ 16 := by omega
    simp [hl, this]
  have hl' : l.length ≤ 16 := by omega
  simp only [hl, decide_false, cond_false, hl', decide_true, Bool.true_and]
  have key : ∀ m k : Nat, ∀ p : Int, k + m = l.length → loopM (fun (s3 : (Int) × (Int)) => (bif decide (s3.2 < (l.length : Int)) then
  (gidx l s3.2).bind fun x8 =>
  Option.bind ((M.impl_validItem (x8.1, x8.2.1, x8.2.2)).bind fun r30 =>
  (bif !r30 then
  some true
 else
  some (decide (x8.1 ≤ s3.1)))) fun o29 =>
  (bif o29 then
  some (.inr (.inr false))
 else
  some (.inl (x8.1, w64 (s3.2 + 1))))
 else
  some (.inr (.inl ())))) (p, (k : Int)) = some (if okFrom p (l.drop k) then (.inl () : Unit ⊕ Bool) else .inr false) := by
    intro m
    induction m with
    | zero =>
      intro k p hk
      have : k = l.length := by omega
      subst this
      rw [loopM_eq]; simp [selim, okFrom]
    | succ m ih =>
      intro k p hk
      have hlt : k < l.length := by omega
      rw [loopM_eq, List.drop_eq_getElem_cons hlt]
      have e1 : decide ((k : Int) < (l.length : Int)) = true := by simpa using hlt
      have e2 : w64 ((k : Int) + 1) = ((k + 1 : Nat) : Int) := w64_id (by omega) (by omega)
      simp only [e1, cond_true, gidx_nat hlt, Option.bind_some, implItem_ok (hb _ (List.getElem_mem hlt)), e2, okFrom]
      by_cases h1 : isItem l[k] = true
      · by_cases h2 : p < l[k].1
        · have h2' : ¬ l[k].1 ≤ p := by omega
          simp only [h1, h2, h2', Bool.not_true, cond_false, Option.bind_some, decide_false, decide_true, Bool.and_self, Bool.true_and, selim]
          exact ih (k + 1) l[k].1 (by omega)
        · have h2' : l[k].1 ≤ p := by omega
          simp [h1, h2, h2', selim]
      · simp only [Bool.not_eq_true] at h1
        simp [h1, selim]
  have := key l.length 0 0 (by omega)
  simp only [Int.cast_ofNat_Int, List.drop_zero] at this
  rw [this]
  cases okFrom 0 l <;> rfl

/-- The key before a place. -/
def keyBefore (l : List Item) : Nat → Int
  | 0 => 0
  | k + 1 => (l.getD k (0, [], 0)).1
theorem specStore_ok {l : List Item} (hb : ∀ x ∈ l, x.2.1.length < 2000000) (hL : l.length < 2000000) : M.spec_validStore l = some (okStore l) := by
  unfold M.spec_validStore okStore
  have key : ∀ m k : Nat, k + m = l.length → loopM (fun (s2 : (Int)) => (bif decide (s2 < (l.length : Int)) then
  Option.bind ((gidx l s2).bind fun x8 =>
  (M.spec_validItem (x8.1, x8.2.1, x8.2.2)).bind fun r19 =>
  (bif !r19 then
  some true
 else
  (bif decide (0 < s2) then
  (gidx l s2).bind fun x24 =>
  (gidx l (w64 (s2 - 1))).bind fun x29 =>
  some (decide (x24.1 ≤ x29.1))
 else
  some false))) fun o7 =>
  (bif o7 then
  some (.inr (.inr false))
 else
  some (.inl (w64 (s2 + 1))))
 else
  some (.inr (.inl ())))) (k : Int) = some (if okFrom (keyBefore l k) (l.drop k) then (.inl () : Unit ⊕ Bool) else .inr false) := by
    intro m
    induction m with
    | zero =>
      intro k hk
      have : k = l.length := by omega
      subst this
      rw [loopM_eq]; simp [selim, okFrom]
    | succ m ih =>
      intro k hk
      have hlt : k < l.length := by omega
      rw [loopM_eq, List.drop_eq_getElem_cons hlt]
      have e1 : decide ((k : Int) < (l.length : Int)) = true := by simpa using hlt
      have e2 : w64 ((k : Int) + 1) = ((k + 1 : Nat) : Int) := w64_id (by omega) (by omega)
      have hnext : keyBefore l (k + 1) = l[k].1 := by simp [keyBefore, List.getD, hlt]
      have ih' := ih (k + 1) (by omega)
      rw [hnext] at ih'
      simp only [e1, cond_true, gidx_nat hlt, Option.bind_some, specItem_ok (hb _ (List.getElem_mem hlt)), e2, okFrom]
      by_cases h1 : isItem l[k] = true
      · simp only [h1, Bool.not_true, cond_false, Bool.true_and]
        match k, hlt with
        | 0, hlt =>
          have hpos : keyBefore l 0 < l[0].1 := by
            have : 1 ≤ l[0].1 := by
              unfold isItem at h1; simp at h1; exact h1.1.1
            show 0 < _; omega
          have e3 : decide ((0 : Int) < ((0 : Nat) : Int)) = false := rfl
          simp only [e3, cond_false, Option.bind_some, hpos, decide_true, Bool.true_and, selim]
          exact ih'
        | j + 1, hlt =>
          have e3 : decide ((0 : Int) < ((j + 1 : Nat) : Int)) = true := by simp
          have e4 : w64 (((j + 1 : Nat) : Int) - 1) = (j : Int) := by rw [w64_id (by omega) (by omega)]; omega
          have hj : j < l.length := by omega
          have hk : keyBefore l (j + 1) = l[j].1 := by simp [keyBefore, List.getD, hj]
          simp only [e3, cond_true, e4, gidx_nat hj, Option.bind_some, hk]
          by_cases h2 : l[j].1 < l[j + 1].1
          · have h2' : ¬ l[j + 1].1 ≤ l[j].1 := by omega
            simp only [h2, h2', decide_false, decide_true, cond_false, Bool.true_and, selim, Option.bind_some]
            exact ih'
          · have h2' : l[j + 1].1 ≤ l[j].1 := by omega
            simp [h2, h2', selim]
      · simp only [Bool.not_eq_true] at h1
        simp [h1, selim]
  have := key l.length 0 (by omega)
  simp only [Int.cast_ofNat_Int, List.drop_zero] at this
  rw [this]
  show _ = some (decide (l.length ≤ 16) && okFrom 0 l)
  have e : keyBefore l 0 = 0 := rfl
  rw [e]
  by_cases h16 : l.length ≤ 16
  · have : decide ((l.length : Int) ≤ 16) = true := by simp; omega
    cases okFrom 0 l <;> simp [selim, this, h16]
  · have : decide ((l.length : Int) ≤ 16) = false := by simp; omega
    cases okFrom 0 l <;> simp [selim, this, h16]
end Go.Vs

namespace Go.Vs

theorem copy_loop {α : Type} {a : List α} {z : α} {g : α → Option α} (ha : a.length ≤ 1048576) (hg : ∀ x ∈ a, g x = some x) {f : List α × Int → Option ((List α × Int) ⊕ List α)}
    (hs : ∀ (s : List α) (i : Nat) (h : i < a.length) (h' : i < s.length), g a[i] = some a[i] → f (s, (i : Int)) = some (.inl (s.set i a[i], ((i + 1 : Nat) : Int)))) (he : ∀ s, f (s, (a.length : Int)) = some (.inr s)) :
    loopM f (List.replicate a.length z, 0) = some a := by
  have hloop := loop_run (R := List α) (f := f) (r := a) a.length (fun i => (a.take i ++ List.replicate (a.length - i) z, (i : Int))) (by
    intro i hi
    have hl : i < (a.take i ++ List.replicate (a.length - i) z).length := by simp; omega
    rw [hs _ i hi hl (hg _ (List.getElem_mem hi))]
    have hr : List.replicate (a.length - i) z = z :: List.replicate (a.length - (i + 1)) z := by
      rw [show a.length - i = (a.length - (i + 1)) + 1 by omega, List.replicate_succ]
    rw [List.take_succ_eq_append_getElem hi, hr, List.set_append_right _ _ (by simp; omega)]
    have : i - (a.take i).length = 0 := by simp; omega
    rw [this]; simp only [List.set_cons_zero, List.append_assoc, List.cons_append, List.nil_append]) (by
    rw [he]; simp)
  simpa using hloop
end Go.Vs

namespace Go.Vs

theorem w64_succ {i : Nat} (h : i < 4000000000000000000) : w64 ((i : Int) + 1) = ((i + 1 : Nat) : Int) := w64_id (by omega) (by omega)

section
variable {α S T R U : Type} {xs : List α}
theorem loop_fold (st : S → Int → T) (g : S → α → S) (Inv : Nat → S → Prop) {fin : S → R} {f : T → Option (T ⊕ R)} {s0 : S} (h0 : Inv 0 s0)
    (hs : ∀ s i (h : i < xs.length), Inv i s → f (st s (i : Int)) = some (.inl (st (g s xs[i]) ((i + 1 : Nat) : Int))) ∧ Inv (i + 1) (g s xs[i]))
    (he : ∀ s, Inv xs.length s → f (st s (xs.length : Int)) = some (.inr (fin s))) :
    loopM f (st s0 0) = some (fin (xs.foldl g s0)) ∧ Inv xs.length (xs.foldl g s0) := by
  have key : ∀ m k : Nat, ∀ s, k + m = xs.length → Inv k s → loopM f (st s (k : Int)) = some (fin ((xs.drop k).foldl g s)) ∧ Inv xs.length ((xs.drop k).foldl g s) := by
    intro m
    induction m with
    | zero =>
      intro k s hk hi
      have : k = xs.length := by omega
      subst this
      rw [loopM_eq, he s hi]; simpa [selim] using hi
    | succ m ih =>
      intro k s hk hi
      have hlt : k < xs.length := by omega
      obtain ⟨h1, h2⟩ := hs s k hlt hi
      rw [loopM_eq, h1, List.drop_eq_getElem_cons hlt]
      exact ih (k + 1) _ (by omega) h2
  have := key xs.length 0 s0 (by omega) h0
  simpa using this
/-- A loop in front of something. -/
theorem fold_bind (st : S → Int → T) (g : S → α → S) (Inv : Nat → S → Prop) (fin : S → R) {f : T → Option (T ⊕ R)} {s0 : S} {k : R → Option U} {r : Option U} (h0 : Inv 0 s0)
    (hs : ∀ s i (h : i < xs.length), Inv i s → f (st s (i : Int)) = some (.inl (st (g s xs[i]) ((i + 1 : Nat) : Int))) ∧ Inv (i + 1) (g s xs[i]))
    (he : ∀ s, Inv xs.length s → f (st s (xs.length : Int)) = some (.inr (fin s)))
    (hk : Inv xs.length (xs.foldl g s0) → k (fin (xs.foldl g s0)) = r) : (loopM f (st s0 0)).bind k = r := by
  obtain ⟨h1, h2⟩ := loop_fold st g Inv (fin := fin) h0 hs he
  rw [h1]; exact hk h2
/-- A loop that comes to r, by what holds at each round and what gets less. -/
theorem loop_to {f : T → Option (T ⊕ R)} (J : T → Prop) (μ : T → Nat) {r : R} (step : ∀ s, J s → (∃ s', f s = some (.inl s') ∧ J s' ∧ μ s' < μ s) ∨ f s = some (.inr r)) {s : T} (h : J s) : loopM f s = some r := by
  obtain ⟨r', h1, rfl⟩ := loopM_ind (f := f) J μ (fun x => x = r) (fun s hs => (step s hs).imp id (fun h => ⟨r, h, rfl⟩)) s h
  exact h1
end

theorem foldl_filter {α : Type} (p : α → Bool) (l : List α) : ∀ s : List α, l.foldl (fun s x => if p x = true then s ++ [x] else s) s = s ++ l.filter p := by
  induction l with
  | nil => intro s; simp
  | cons x l ih =>
    intro s
    rw [List.foldl_cons, ih, List.filter_cons]
    by_cases h : p x = true <;> simp [h]
/-! ## Valid stores as lists that ascend -/
theorem okFrom_iff {l : List Item} : ∀ {p : Int}, okFrom p l = true ↔ (∀ x ∈ l, isItem x = true ∧ p < x.1) ∧ l.Pairwise (fun x y => x.1 < y.1) := by
  induction l with
  | nil => intro p; simp [okFrom]
  | cons x l ih =>
    intro p
    simp only [okFrom, Bool.and_eq_true, decide_eq_true_eq, ih, List.pairwise_cons, List.mem_cons, forall_eq_or_imp]
    constructor
    · rintro ⟨⟨h1, h2⟩, h3, h4⟩
      exact ⟨⟨⟨h1, h2⟩, fun y hy => ⟨(h3 y hy).1, by have := (h3 y hy).2; omega⟩⟩, fun y hy => (h3 y hy).2, h4⟩
    · rintro ⟨⟨⟨h1, h2⟩, h3⟩, h4, h5⟩
      exact ⟨⟨h1, h2⟩, fun y hy => ⟨(h3 y hy).1, h4 y hy⟩, h5⟩
theorem isItem_iff {x : Item} : isItem x = true ↔ (1 ≤ x.1 ∧ x.1 ≤ 99) ∧ isVec x.2.1 = true ∧ 0 ≤ x.2.2 ∧ x.2.2 ≤ 15 := by
  unfold isItem; simp only [Bool.and_eq_true, decide_eq_true_eq]
theorem okStore_iff {l : List Item} : okStore l = true ↔ l.length ≤ 16 ∧ (∀ x ∈ l, isItem x = true) ∧ l.Pairwise (fun x y => x.1 < y.1) := by
  unfold okStore
  simp only [Bool.and_eq_true, decide_eq_true_eq, okFrom_iff]
  constructor
  · rintro ⟨h1, h2, h3⟩; exact ⟨h1, fun x hx => (h2 x hx).1, h3⟩
  · rintro ⟨h1, h2, h3⟩; exact ⟨h1, fun x hx => ⟨h2 x hx, by have := (isItem_iff.1 (h2 x hx)).1.1; omega⟩, h3⟩
theorem isItem_len {x : Item} (h : isItem x = true) : x.2.1.length = 4 := (isVec_iff.1 (isItem_iff.1 h).2.1).1

/-- A list of items that is small enough to be looked at. -/
def SmallS (l : List Item) : Prop := l.length ≤ 1048576 ∧ ∀ x ∈ l, x.2.1.length ≤ 1048576
theorem SmallS.hb {l : List Item} (h : SmallS l) : ∀ x ∈ l, x.2.1.length < 2000000 := fun x hx => by have := h.2 x hx; omega
theorem SmallS.hL {l : List Item} (h : SmallS l) : l.length < 2000000 := by have := h.1; omega
theorem okStore_small {l : List Item} (h : okStore l = true) : SmallS l := by
  obtain ⟨h1, h2, h3⟩ := okStore_iff.1 h
  exact ⟨by omega, fun x hx => by have := isItem_len (h2 x hx); omega⟩
theorem SmallS.impl {l : List Item} (h : SmallS l) : M.impl_ValidStore l = some (okStore l) := implStore_ok h.hb
theorem SmallS.specv {l : List Item} (h : SmallS l) : M.spec_validStore l = some (okStore l) := specStore_ok h.hb h.hL
/-! ## Putting -/
def putS (l : List Item) (x : Item) : List Item := l.filter (fun y => decide (y.1 < x.1)) ++ x :: l.filter (fun y => decide (x.1 < y.1))
theorem copyItem_spec {x : Item} (h : x.2.1.length ≤ 1000000) : M.spec_copyItem (x.1, x.2.1, x.2.2) = some x := by
  unfold M.spec_copyItem; simp only [copy_ok h, Option.bind_some]
theorem specPut_ok {l : List Item} {x : Item} (hl : l.length ≤ 1000) (hx : ∀ y ∈ l, y.2.1.length ≤ 1000000) (hxx : x.2.1.length ≤ 1000000) : M.spec_put l (x.1, x.2.1, x.2.2) = some (putS l x) := by
  unfold M.spec_put
  simp only []
  refine fold_bind (xs := l) (fun s i => (s, i)) (fun s y => if (decide (y.1 < x.1)) = true then s ++ [y] else s) (fun i s => s.length ≤ i) (fun s => s) (by simp) ?_ ?_ ?_
  · intro s i h hs
    have e1 : decide ((i : Int) < (l.length : Int)) = true := by simpa using h
    simp only [e1, cond_true, gidx_nat h, Option.bind_some, w64_succ (i := i) (by omega)]
    by_cases hk : l[i].1 < x.1
    · simp only [hk, decide_true, cond_true, copyItem_spec (hx _ (List.getElem_mem h)), Option.bind_some, if_true]
      rw [gapp_ok (by simp; omega)]
      exact ⟨by first | rfl | trivial, by simp; omega⟩
    · simp only [hk, decide_false, cond_false, Option.bind_some, if_false, Bool.false_eq_true]
      exact ⟨by first | rfl | trivial, by omega⟩
  · intro s _; simp
  · intro hs
    rw [foldl_filter] at hs ⊢
    simp only [List.nil_append] at hs ⊢
    simp only [copyItem_spec hxx, Option.bind_some]
    rw [gapp_ok (by simp; omega)]
    simp only [Option.bind_some]
    refine fold_bind (xs := l) (fun s i => (s, i)) (fun s y => if (decide (x.1 < y.1)) = true then s ++ [y] else s) (fun i s => s.length ≤ 1001 + i) (fun s => s) (by simp; omega) ?_ ?_ ?_
    · intro s i h hs
      have e1 : decide ((i : Int) < (l.length : Int)) = true := by simpa using h
      simp only [e1, cond_true, gidx_nat h, Option.bind_some, w64_succ (i := i) (by omega)]
      by_cases hk : x.1 < l[i].1
      · simp only [hk, decide_true, cond_true, copyItem_spec (hx _ (List.getElem_mem h)), Option.bind_some, if_true]
        rw [gapp_ok (by simp; omega)]
        exact ⟨by first | rfl | trivial, by simp; omega⟩
      · simp only [hk, decide_false, cond_false, Option.bind_some, if_false, Bool.false_eq_true]
        exact ⟨by first | rfl | trivial, by omega⟩
    · intro s _; simp
    · intro _
      rw [foldl_filter]; simp [putS]
theorem putS_len {l : List Item} {x : Item} (h : l.Pairwise (fun x y => x.1 < y.1)) : (putS l x).length ≤ l.length + 1 := by
  unfold putS
  simp only [List.length_append, List.length_cons]
  have : ∀ l : List Item, (l.filter (fun y => decide (y.1 < x.1))).length + (l.filter (fun y => decide (x.1 < y.1))).length ≤ l.length := by
    intro l
    induction l with
    | nil => simp
    | cons y l ih =>
      rw [List.filter_cons, List.filter_cons]
      by_cases h1 : y.1 < x.1
      · have h2 : ¬ x.1 < y.1 := by omega
        simp [h1, h2]; omega
      · by_cases h2 : x.1 < y.1
        · simp [h1, h2]; omega
        · simp [h1, h2]; omega
  have := this l; omega
theorem putS_ok {l : List Item} {x : Item} (h : okStore l = true) (hx : isItem x = true) : (∀ y ∈ putS l x, isItem y = true) ∧ (putS l x).Pairwise (fun x y => x.1 < y.1) := by
  obtain ⟨_, h2, h3⟩ := okStore_iff.1 h
  unfold putS
  refine ⟨?_, ?_⟩
  · intro y hy
    simp only [List.mem_append, List.mem_cons, List.mem_filter] at hy
    rcases hy with hy | rfl | hy
    · exact h2 y hy.1
    · exact hx
    · exact h2 y hy.1
  · rw [List.pairwise_append, List.pairwise_cons]
    refine ⟨h3.sublist List.filter_sublist, ⟨fun y hy => ?_, h3.sublist List.filter_sublist⟩, fun y hy z hz => ?_⟩
    · simpa using (List.mem_filter.1 hy).2
    · have h4 : y.1 < x.1 := by simpa using (List.mem_filter.1 hy).2
      rcases List.mem_cons.1 hz with rfl | hz
      · exact h4
      · have : x.1 < z.1 := by simpa using (List.mem_filter.1 hz).2
        omega
theorem putS_okStore {l : List Item} {x : Item} (h : okStore l = true) (hx : isItem x = true) : okStore (putS l x) = decide ((putS l x).length ≤ 16) := by
  obtain ⟨h1, h2⟩ := putS_ok h hx
  rw [Bool.eq_iff_iff, okStore_iff, decide_eq_true_eq]; exact ⟨fun h => h.1, fun h => ⟨h, h1, h2⟩⟩
def putItem (l : List Item) (x : Item) : List Item × Bool := if okStore l = true ∧ isItem x = true ∧ (putS l x).length ≤ 16 then (putS l x, true) else ([], false)
theorem specPutItem_ok {l : List Item} {x : Item} (h : SmallS l) (hx : x.2.1.length ≤ 1000000) : M.spec_PutItem l (x.1, x.2.1, x.2.2) = some (putItem l x) := by
  unfold M.spec_PutItem putItem
  simp only [h.specv, specItem_ok (x := x) (by omega), Option.bind_some]
  cases h1 : okStore l with
  | false => simp
  | true =>
    cases h2 : isItem x with
    | false => simp
    | true =>
      obtain ⟨hl, hi, hp⟩ := okStore_iff.1 h1
      simp only [Bool.not_true, cond_false, Option.bind_some]
      rw [specPut_ok (by omega) (fun y hy => by have := isItem_len (hi y hy); omega) hx]
      have hs := putS_ok h1 h2
      have hn := putS_len (x := x) hp
      simp only [Option.bind_some, specStore_ok (l := putS l x) (fun y hy => by have := isItem_len (hs.1 y hy); omega) (by omega), putS_okStore h1 h2]
      by_cases h16 : (putS l x).length ≤ 16 <;> simp [h16]

/-! ## Draws -/
theorem item_ok {k : Nat} (hk : k ≤ 700000) {r : List UInt8 × Int} (hr : Good k r) :
    ∃ x r', M.spec_someItem (r.1, r.2) = some (x, (r'.1, r'.2)) ∧ Good (k + 14) r' ∧ isItem x = true ∧ x.1 ≤ 30 := by
  obtain ⟨x1, r1, h1, g1, a1, b1, _⟩ := pick_ok (by omega) hr 30
  obtain ⟨v, r2, h2, g2, hv⟩ := vector_ok (by omega) g1
  obtain ⟨x3, r3, h3, g3, a3, b3, _⟩ := pick_ok (by omega) g2 16
  have b1 := b1 (by omega)
  have b3 := b3 (by omega)
  refine ⟨(1 + x1, v, x3), r3, ?_, g3.mono (by omega), isItem_iff.2 ⟨⟨by simp only; omega, by simp only; omega⟩, hv, by simp only; omega, by simp only; omega⟩, by simp only; omega⟩
  unfold M.spec_someItem
  simp only [h1, h2, h3, Option.bind_some, w64_id (n := 1 + x1) (by omega) (by omega)]

/-- An item that may be drawn. -/
def NearI (x : Item) : Prop := (0 ≤ x.1 ∧ x.1 ≤ 100) ∧ Near x.2.1 ∧ -1 ≤ x.2.2 ∧ x.2.2 ≤ 16
theorem nearI_of {x : Item} (h : isItem x = true) : NearI x := by
  obtain ⟨h1, h2, h3⟩ := isItem_iff.1 h
  exact ⟨by omega, near_of h2, by omega⟩
theorem anyItem_ok {k : Nat} (hk : k ≤ 500000) {r : List UInt8 × Int} (hr : Good k r) :
    ∃ x r', M.spec_anyItem (r.1, r.2) = some (x, (r'.1, r'.2)) ∧ Good (k + 40) r' ∧ NearI x := by
  obtain ⟨x, r1, h1, g1, hx, _⟩ := item_ok (by omega) hr
  obtain ⟨c, r2, h2, g2, _, _, _⟩ := pick_ok (by omega) g1 16
  obtain ⟨hk1, hv, ht⟩ := isItem_iff.1 hx
  unfold M.spec_anyItem
  simp only [h1, h2, Option.bind_some]
  by_cases c0 : c = 0
  · obtain ⟨y, r3, h3, g3, m3⟩ := one_ok (by omega) g2 (list := [0, 99, 100]) (by simp)
    refine ⟨(y, x.2.1, x.2.2), r3, by simp [c0, h3], g3.mono (by omega), ⟨?_, near_of hv, by simp only; omega⟩⟩
    simp only [List.mem_cons, List.not_mem_nil, or_false] at m3; simp only; omega
  · have e0 : (c == 0) = false := by simpa using c0
    simp only [e0, cond_false]
    by_cases c1 : c = 1
    · obtain ⟨v, r3, h3, g3, n3⟩ := any_ok (by omega) g2
      exact ⟨(x.1, v, x.2.2), r3, by simp [c1, h3], g3.mono (by omega), ⟨by simp only; omega, n3, by simp only; omega⟩⟩
    · have e1 : (c == 1) = false := by simpa using c1
      simp only [e1, cond_false]
      by_cases c2 : c = 2
      · obtain ⟨y, r3, h3, g3, m3⟩ := one_ok (by omega) g2 (list := [-1, 16]) (by simp)
        refine ⟨(x.1, x.2.1, y), r3, by simp [c2, h3], g3.mono (by omega), ⟨by simp only; omega, near_of hv, ?_⟩⟩
        simp only [List.mem_cons, List.not_mem_nil, or_false] at m3; simp only; omega
      · have e2 : (c == 2) = false := by simpa using c2
        exact ⟨x, r2, by simp [e2], g2.mono (by omega), nearI_of hx⟩

theorem okStore_nil : okStore [] = true := rfl
theorem store_loop {n : Nat} : ∀ {k : Nat} {r : List UInt8 × Int} {l : List Item}, k + 14 * n ≤ 400000 → n ≤ 100 → Good k r → okStore l = true →
    ∃ l' r', loopM (fun (s27 : ((List UInt8) × (Int)) × (List (Int × (List Int) × Int)) × (Int)) => (bif decide (0 < s27.2.2) then
  Option.bind ((M.spec_someItem (s27.1.1, s27.1.2)).bind fun r39 =>
  (M.spec_PutItem s27.2.1 (r39.1.1, r39.1.2.1, r39.1.2.2)).bind fun r55 =>
  (bif r55.2 then
  some ((r39.2.1, r39.2.2), r55.1)
 else
  some ((r39.2.1, r39.2.2), s27.2.1))) fun o38 =>
  some (.inl ((o38.1.1, o38.1.2), o38.2, w64 (s27.2.2 - 1)))
 else
  some (.inr ((s27.1.1, s27.1.2), s27.2.1)))) (r, l, (n : Int)) = some (r', l') ∧ Good (k + 14 * n) r' ∧ okStore l' = true := by
  induction n with
  | zero => intro k r l _ _ hr hl; exact ⟨l, r, by rw [loopM_eq]; simp [selim], hr.mono (by omega), hl⟩
  | succ n ih =>
    intro k r l hk hn hr hl
    obtain ⟨x, r1, h1, g1, hx, _⟩ := item_ok (by omega) hr
    rw [loopM_eq]
    have e1 : decide ((0 : Int) < ((n + 1 : Nat) : Int)) = true := decide_eq_true (by omega)
    have e2 : w64 (((n + 1 : Nat) : Int) - 1) = (n : Int) := by rw [w64_id (by omega) (by omega)]; omega
    simp only [e1, cond_true, h1, Option.bind_some, specPutItem_ok (x := x) (okStore_small hl) (by have := isItem_len hx; omega), e2]
    by_cases hp : (putItem l x).2 = true
    · have hok : okStore (putItem l x).1 = true := by
        unfold putItem at hp ⊢
        split
        · rename_i h; simp only; rw [putS_okStore hl hx]; simpa using h.2.2
        · rename_i h; rw [if_neg h] at hp; cases hp
      obtain ⟨l', r', h2, h3, h4⟩ := ih (k := k + 14) (r := r1) (l := (putItem l x).1) (by omega) (by omega) g1 hok
      refine ⟨l', r', ?_, h3.mono (by omega), h4⟩
      simp only [hp, cond_true, Option.bind_some, selim]; exact h2
    · simp only [Bool.not_eq_true] at hp
      obtain ⟨l', r', h2, h3, h4⟩ := ih (k := k + 14) (r := r1) (l := l) (by omega) (by omega) g1 hl
      refine ⟨l', r', ?_, h3.mono (by omega), h4⟩
      simp only [hp, cond_false, Option.bind_some, selim]; exact h2
theorem someStore_ok {k : Nat} (hk : k ≤ 300000) {r : List UInt8 × Int} (hr : Good k r) :
    ∃ l r', M.spec_someStore (r.1, r.2) = some (l, (r'.1, r'.2)) ∧ Good (k + 281) r' ∧ okStore l = true := by
  obtain ⟨x, r1, h1, g1, m1⟩ := one_ok (by omega) hr (list := [4, 6, 8, 3, 1, 0, 20, 12]) (by simp)
  obtain ⟨n, rfl, hn⟩ : ∃ n : Nat, x = (n : Int) ∧ n ≤ 20 := ⟨x.toNat, by simp only [List.mem_cons, List.not_mem_nil, or_false] at m1; omega, by simp only [List.mem_cons, List.not_mem_nil, or_false] at m1; omega⟩
  obtain ⟨l, r2, h2, g2, hl⟩ := store_loop (n := n) (k := k + 1) (r := r1) (l := []) (by omega) (by omega) g1 okStore_nil
  refine ⟨l, r2, ?_, g2.mono (by omega), hl⟩
  unfold M.spec_someStore
  simp only [h1, Option.bind_some]
  rw [show ((r1.1, r1.2), ([] : List Item), (n : Int)) = (r1, [], (n : Int)) from rfl, h2]; rfl
/-- A store that may be drawn. -/
def NearS (l : List Item) : Prop := l.length ≤ 17 ∧ ∀ x ∈ l, NearI x
theorem NearS.small {l : List Item} (h : NearS l) : SmallS l := ⟨by have := h.1; omega, fun x hx => by have := (h.2 x hx).2.1.1; omega⟩
theorem nearS_of {l : List Item} (h : okStore l = true) : NearS l := by
  obtain ⟨h1, h2, _⟩ := okStore_iff.1 h
  exact ⟨by omega, fun x hx => nearI_of (h2 x hx)⟩
theorem anyStore_ok {k : Nat} (hk : k ≤ 200000) {r : List UInt8 × Int} (hr : Good k r) :
    ∃ l r', M.spec_anyStore (r.1, r.2) = some (l, (r'.1, r'.2)) ∧ Good (k + 400) r' ∧ NearS l := by
  obtain ⟨l, r1, h1, g1, hl⟩ := someStore_ok (by omega) hr
  obtain ⟨c, r2, h2, g2, _, _, _⟩ := pick_ok (by omega) g1 20
  have hN := nearS_of hl
  obtain ⟨hlen, hit, _⟩ := okStore_iff.1 hl
  unfold M.spec_anyStore
  simp only [h1, h2, Option.bind_some]
  by_cases c0 : c = 0
  · obtain ⟨x, r3, h3, g3, hx⟩ := anyItem_ok (by omega) g2
    refine ⟨l ++ [x], r3, ?_, g3.mono (by omega), by simp; omega, ?_⟩
    · simp only [c0, show ((0 : Int) == 0) = true from rfl, cond_true, h3, Option.bind_some]
      rw [gapp_ok (by simp; omega)]; rfl
    · intro y hy
      rcases List.mem_append.1 hy with h | h
      · exact hN.2 y h
      · simp only [List.mem_singleton] at h; subst h; exact hx
  · have e0 : (c == 0) = false := by simpa using c0
    simp only [e0, cond_false]
    by_cases c1 : c = 1
    · by_cases hpos : 0 < l.length
      · have e1 : decide (0 < (l.length : Int)) = true := by simp; omega
        obtain ⟨i, r3, h3, g3, a3, b3, _⟩ := pick_ok (by omega) g2 (l.length : Int)
        have b3 := b3 (by omega)
        obtain ⟨v, r4, h4, g4, n4⟩ := any_ok (by omega) g3
        obtain ⟨y, hy, my⟩ := gidx_lt' (xs := l) a3 b3
        refine ⟨l.set i.toNat (y.1, v, y.2.2), r4, ?_, g4.mono (by omega), by simp; omega, ?_⟩
        · simp only [c1, show ((1 : Int) == 1) = true from rfl, cond_true, e1, h3, h4, hy, Option.bind_some]
        · intro z hz
          rcases List.mem_or_eq_of_mem_set hz with h | h
          · exact hN.2 z h
          · subst h; exact ⟨(hN.2 y my).1, n4, (hN.2 y my).2.2⟩
      · have e1 : decide (0 < (l.length : Int)) = false := decide_eq_false (by omega)
        exact ⟨l, r2, by simp only [c1, show ((1 : Int) == 1) = true from rfl, cond_true, e1, cond_false, Option.bind_some], g2.mono (by omega), hN⟩
    · have e1 : (c == 1) = false := by simpa using c1
      exact ⟨l, r2, by simp [e1], g2.mono (by omega), hN⟩
end Go.Vs

namespace Go.Vs

theorem wk_i64 (n : Int) : wk .i64 n = w64 n := rfl
theorem wk_u64 {n : Int} (h0 : 0 ≤ n) (h : n < 18446744073709551616) : wk .u64 n = n := by
  simp only [wk, Go.IntKind.wrap, Go.IntKind.bits, Go.IntKind.signed, Bool.false_and]
  have e1 : ((2 : Int) ^ (64 : Nat)) = 18446744073709551616 := by decide
  rw [e1]
  simp; omega
theorem mid_ok {i j : Nat} (hi : i ≤ j) (hj : j < 1000000000) : wk .i64 (gshr .u64 (wk .u64 (w64 ((i : Int) + (j : Int)))) 1) = (((i + j) / 2 : Nat) : Int) := by
  rw [w64_id (by omega) (by omega), wk_u64 (by omega) (by omega), wk_i64]
  have : gshr .u64 ((i : Int) + (j : Int)) 1 = ((i + j) / 2 : Nat) := by
    unfold gshr
    have e : (2 : Int) ^ (min (1 : Int).toNat (Go.IntKind.bits .u64)) = 2 := by decide
    rw [e, Int.fdiv_eq_ediv_of_nonneg _ (by omega)]
    omega
  rw [this, w64_nat (by omega)]
def cmpI (x y : Int) : Int := if x < y then -1 else if y < x then 1 else 0
theorem compare_ok (x y : Int) : M.cmp_Compare_int x y = some (cmpI x y) := by
  unfold M.cmp_Compare_int M.cmp_isNaN_int cmpI
  simp only [bne_self_eq_false, Option.bind_some, cond_false]
  by_cases h1 : x < y
  · simp [h1]
  · by_cases h2 : y < x <;> simp [h1, h2]
theorem place1_ok (x : Item) (k : Int) : M.impl_placeOf_1 (x.1, x.2.1, x.2.2) k = some (cmpI x.1 k) := by
  unfold M.impl_placeOf_1; simp only [compare_ok, Option.bind_some]
theorem cmpI_neg {x y : Int} : cmpI x y < 0 ↔ x < y := by unfold cmpI; split <;> (try split) <;> omega
theorem cmpI_zero {x y : Int} : cmpI x y = 0 ↔ x = y := by unfold cmpI; split <;> (try split) <;> omega
/-- Where a key is, or would be. -/
def placeS (l : List Item) (k : Int) : Nat := l.countP fun x => decide (x.1 < k)
theorem place_lt {l : List Item} {k : Int} (hp : l.Pairwise (fun x y => x.1 < y.1)) {i : Nat} (h : i < l.length) : i < placeS l k ↔ l[i].1 < k := by
  induction l generalizing i with
  | nil => simp at h
  | cons x l ih =>
    rw [List.pairwise_cons] at hp
    unfold placeS at ih ⊢
    rw [List.countP_cons]
    cases i with
    | zero =>
      by_cases hx : x.1 < k
      · simp [hx]
      · have : l.countP (fun x => decide (x.1 < k)) = 0 := by
          rw [List.countP_eq_zero]; intro y hy; have := hp.1 y hy; simp; omega
        simp only [this, hx, decide_false, List.getElem_cons_zero]; simp
    | succ i =>
      simp only [List.length_cons] at h
      have := ih hp.2 (i := i) (by omega)
      simp only [List.getElem_cons_succ]
      by_cases hx : x.1 < k
      · simp only [hx, decide_true, if_true]; rw [← this]; omega
      · have h0 : l.countP (fun x => decide (x.1 < k)) = 0 := by
          rw [List.countP_eq_zero]; intro y hy; have := hp.1 y hy; simp; omega
        rw [h0] at this ⊢
        have hy := hp.1 l[i] (List.getElem_mem _)
        simp only [hx, decide_false]; constructor
        · intro hh; simp at hh
        · intro hh; omega
theorem placeS_le {l : List Item} {k : Int} : placeS l k ≤ l.length := List.countP_le_length
theorem search_ok {l : List Item} {k : Int} (hp : l.Pairwise (fun x y => x.1 < y.1)) (hl : l.length < 1000000) :
    M.slices_BinarySearchFunc_impl_Item_impl_Item_int__impl_placeOf_1 l k = some ((placeS l k : Int), l.any fun x => x.1 == k) := by
  unfold M.slices_BinarySearchFunc_impl_Item_impl_Item_int__impl_placeOf_1
  have hk := loop_to (f := fun (s2 : (Int) × (Int)) => (bif decide (s2.1 < s2.2) then
  (gidx l (wk .i64 (gshr .u64 (wk .u64 (w64 (s2.1 + s2.2))) 1))).bind fun x5 =>
  (M.impl_placeOf_1 (x5.1, x5.2.1, x5.2.2) k).bind fun r15 =>
  (bif decide (r15 < 0) then
  some (.inl (w64 ((wk .i64 (gshr .u64 (wk .u64 (w64 (s2.1 + s2.2))) 1)) + 1), s2.2))
 else
  some (.inl (s2.1, wk .i64 (gshr .u64 (wk .u64 (w64 (s2.1 + s2.2))) 1))))
 else
  some (.inr s2.1))) (fun s => ∃ i j : Nat, s = ((i : Int), (j : Int)) ∧ i ≤ j ∧ j ≤ l.length ∧ i ≤ placeS l k ∧ placeS l k ≤ j) (fun s => (s.2 - s.1).toNat) (r := (placeS l k : Int)) (by
    rintro _ ⟨i, j, rfl, hij, hjl, h1, h2⟩
    by_cases hlt : i < j
    · have e1 : decide ((i : Int) < (j : Int)) = true := decide_eq_true (by omega)
      have hmid : (i + j) / 2 < l.length := by omega
      simp only [e1, cond_true, mid_ok hij (by omega), gidx_nat hmid, Option.bind_some, place1_ok]
      have hpl := place_lt (k := k) hp hmid
      by_cases hc : l[(i + j) / 2].1 < k
      · have e2 : decide (cmpI l[(i + j) / 2].1 k < 0) = true := decide_eq_true (cmpI_neg.2 hc)
        simp only [e2, cond_true, w64_succ (i := (i + j) / 2) (by omega)]
        exact .inl ⟨_, rfl, ⟨_, _, rfl, by omega, hjl, by have := hpl.2 hc; omega, h2⟩, by simp only; omega⟩
      · have e2 : decide (cmpI l[(i + j) / 2].1 k < 0) = false := decide_eq_false (fun h => hc (cmpI_neg.1 h))
        simp only [e2, cond_false]
        exact .inl ⟨_, rfl, ⟨_, _, rfl, by omega, by omega, h1, Nat.le_of_not_lt fun h => hc (hpl.1 h)⟩, by simp only; omega⟩
    · have : i = placeS l k := by omega
      have e1 : decide ((i : Int) < (j : Int)) = false := decide_eq_false (by omega)
      refine .inr ?_
      simp only [e1, cond_false]; rw [this])
    (s := (0, (l.length : Int))) ⟨0, l.length, rfl, by omega, Nat.le_refl _, by omega, placeS_le⟩
  rw [hk]
  simp only [Option.bind_some]
  by_cases hlt : placeS l k < l.length
  · have e1 : decide ((placeS l k : Int) < (l.length : Int)) = true := decide_eq_true (by omega)
    simp only [e1, cond_true, gidx_nat hlt, Option.bind_some, place1_ok]
    congr 2
    have hpl := place_lt (k := k) hp hlt
    have hge : k ≤ l[placeS l k].1 := by
      refine Int.not_lt.1 fun h => ?_
      have := hpl.2 h; omega
    rw [Bool.eq_iff_iff, beq_iff_eq, cmpI_zero, List.any_eq_true]
    constructor
    · intro h; exact ⟨_, List.getElem_mem hlt, by simpa using h⟩
    · rintro ⟨x, hx, hxk⟩
      obtain ⟨i, hi, rfl⟩ := List.getElem_of_mem hx
      have hik : l[i].1 = k := by simpa using hxk
      have hle : ¬ i < placeS l k := fun h => by have := (place_lt hp hi).1 h; omega
      rcases Nat.lt_or_ge (placeS l k) i with h | h
      · have := List.pairwise_iff_getElem.1 hp _ _ hlt hi h; omega
      · have : i = placeS l k := by omega
        subst this; exact hik
  · have e1 : decide ((placeS l k : Int) < (l.length : Int)) = false := decide_eq_false (by omega)
    simp only [e1, cond_false]
    congr 2
    symm
    rw [List.any_eq_false]
    intro x hx hxk
    obtain ⟨i, hi, rfl⟩ := List.getElem_of_mem hx
    have hik : l[i].1 = k := by simpa using hxk
    have := (place_lt (k := k) hp hi).1 (by omega); omega
theorem placeOf_ok {l : List Item} {k : Int} (h : okStore l = true) : M.impl_placeOf l k = some ((placeS l k : Int), l.any fun x => x.1 == k) := by
  obtain ⟨h1, _, h3⟩ := okStore_iff.1 h
  unfold M.impl_placeOf
  rw [search_ok h3 (by omega)]; rfl
/-- The item at the place of its key. -/
theorem place_get {l : List Item} {k : Int} (hp : l.Pairwise (fun x y => x.1 < y.1)) (h : l.any (fun x => x.1 == k) = true) : ∃ hi : placeS l k < l.length, l[placeS l k].1 = k ∧ l.find? (fun x => x.1 == k) = some l[placeS l k] := by
  obtain ⟨x, hx, hxk⟩ := List.any_eq_true.1 h
  obtain ⟨i, hi, rfl⟩ := List.getElem_of_mem hx
  have hik : l[i].1 = k := by simpa using hxk
  have hle : ¬ i < placeS l k := fun h => by have := (place_lt hp hi).1 h; omega
  have hlt : placeS l k < l.length := by omega
  have hge : ¬ placeS l k < i := fun h => by
    have h1 := List.pairwise_iff_getElem.1 hp _ _ hlt hi h
    have := (place_lt (k := k) hp hlt).2 (by omega); omega
  have : i = placeS l k := by omega
  refine ⟨hlt, by subst this; exact hik, ?_⟩
  rw [List.find?_eq_some_iff_getElem]
  refine ⟨by subst this; simpa using hik, _, hlt, rfl, fun j hj => ?_⟩
  have := (place_lt (k := k) hp (i := j) (by omega)).1 hj
  simp; omega

theorem clone_ok {v : List Int} (h : v.length ≤ 1048576) : M.slices_Clone_int_int v = some v := by
  unfold M.slices_Clone_int_int; rw [gapp_ok (by simp; omega)]; rfl
theorem implCopy_ok {x : Item} (h : x.2.1.length ≤ 1048576) : M.impl_copyItem (x.1, x.2.1, x.2.2) = some x := by
  unfold M.impl_copyItem; simp only [clone_ok h, Option.bind_some]
theorem bind_id {α : Type} (o : Option α) : o.bind (fun b => some b) = o := by cases o <;> rfl
theorem equalItems_ok {l m : List Item} (h : SmallS l) : M.laws_equalItems l m = some (decide (l = m)) := by
  unfold M.laws_equalItems
  by_cases hl : l.length = m.length
  · have e0 : ((l.length : Int) != (m.length : Int)) = false := by simp [hl]
    simp only [e0, cond_false]
    have hx : ∀ i (h : i < l.length) (h' : i < m.length), (Option.bind ((gidx l (i : Int)).bind fun x10 =>
  (gidx m (i : Int)).bind fun x15 =>
  (bif x10.1 != x15.1 then
  some true
 else
  (gidx l (i : Int)).bind fun x22 =>
  (gidx m (i : Int)).bind fun x27 =>
  (bif x22.2.2 != x27.2.2 then
  some true
 else
  (gidx l (i : Int)).bind fun x34 =>
  (gidx m (i : Int)).bind fun x44 =>
  (M.laws_equalInts x34.2.1 x44.2.1).bind fun r55 =>
  some (!r55)))) (fun b => some b)) = some (!decide (l[i] = m[i])) := by
      intro i hi hi'
      simp only [gidx_nat hi, gidx_nat hi', Option.bind_some, equalInts_ok (h.hb _ (List.getElem_mem hi))]
      generalize l[i] = x
      generalize m[i] = y
      obtain ⟨a, b, c⟩ := x
      obtain ⟨a', b', c'⟩ := y
      by_cases h1 : a = a'
      · by_cases h2 : c = c'
        · simp [h1, h2]
        · have : (c != c') = true := bne_iff_ne.2 h2
          simp [h1, h2, this]
      · have : (a != a') = true := bne_iff_ne.2 h1
        simp [h1, this]
    rw [loop_all (xs := l.zip m) (P := fun x => decide (x.1 = x.2)) (r := false)]
    · have : (l.zip m).all (fun x => decide (x.1 = x.2)) = decide (l = m) := by
        clear hx h e0
        induction l generalizing m with
        | nil => cases m with
          | nil => rfl
          | cons => simp at hl
        | cons x l ih => cases m with
          | nil => simp at hl
          | cons y m =>
            simp only [List.length_cons, Nat.add_right_cancel_iff] at hl
            rw [List.zip_cons_cons, List.all_cons, ih hl]
            by_cases h1 : x = y <;> by_cases h2 : l = m <;> simp [h1, h2]
      rw [this]
      by_cases h1 : l = m <;> simp [h1, selim]
    · intro i hi
      have hz : (l.zip m).length = l.length := by rw [List.length_zip]; omega
      have hi1 : i < l.length := by omega
      have hi2 : i < m.length := by omega
      have e1 : decide ((i : Int) < (l.length : Int)) = true := decide_eq_true (by omega)
      have e2 : w64 ((i : Int) + 1) = (i : Int) + 1 := w64_id (by have := h.hL; omega) (by have := h.hL; omega)
      have := hx i hi1 hi2
      rw [bind_id] at this
      simp only [e1, cond_true, this, Option.bind_some, e2, List.getElem_zip]
      by_cases hxy : l[i] = m[i] <;> simp [hxy]
    · have hz : (l.zip m).length = l.length := by rw [List.length_zip]; omega
      simp [hz]
  · have e0 : ((l.length : Int) != (m.length : Int)) = true := by simp; omega
    have : l ≠ m := fun h => hl (by rw [h])
    simp [e0, this]

end Go.Vs

namespace Go.Vs

section
variable {α S T R U : Type} {xs : List α}
end

def minV (a b : List Int) : List Int := List.zipWith min a b
def maxV (a b : List Int) : List Int := List.zipWith max a b
theorem fold_low {l : List Item} (h : ∀ x ∈ l, isVec x.2.1 = true) : ∀ {a b c d : Int}, l.foldl (fun s y => minV s y.2.1) [a, b, c, d] = [lowAt 0 a (l.map (·.2.1)), lowAt 1 b (l.map (·.2.1)), lowAt 2 c (l.map (·.2.1)), lowAt 3 d (l.map (·.2.1))] := by
  induction l with
  | nil => intro a b c d; rfl
  | cons x l ih =>
    intro a b c d
    obtain ⟨e, f, g, i, hx, _⟩ := isVec_four (h x (by simp))
    rw [List.foldl_cons, hx]
    simp only [minV, List.zipWith_cons_cons, List.zipWith_nil_left]
    rw [show (fun (s : List Int) (y : Item) => List.zipWith min s y.2.1) = fun s y => minV s y.2.1 from rfl, ih (fun y hy => h y (by simp [hy]))]
    simp only [lowAt, List.map_cons, List.foldl_cons, hx]; rfl
theorem fold_high {l : List Item} (h : ∀ x ∈ l, isVec x.2.1 = true) : ∀ {a b c d : Int}, l.foldl (fun s y => maxV s y.2.1) [a, b, c, d] = [highAt 0 a (l.map (·.2.1)), highAt 1 b (l.map (·.2.1)), highAt 2 c (l.map (·.2.1)), highAt 3 d (l.map (·.2.1))] := by
  induction l with
  | nil => intro a b c d; rfl
  | cons x l ih =>
    intro a b c d
    obtain ⟨e, f, g, i, hx, _⟩ := isVec_four (h x (by simp))
    rw [List.foldl_cons, hx]
    simp only [maxV, List.zipWith_cons_cons, List.zipWith_nil_left]
    rw [show (fun (s : List Int) (y : Item) => List.zipWith max s y.2.1) = fun s y => maxV s y.2.1 from rfl, ih (fun y hy => h y (by simp [hy]))]
    simp only [highAt, List.map_cons, List.foldl_cons, hx]; rfl
theorem lowAt_mem {j : Nat} {l : List (List Int)} : ∀ {x : Int}, lowAt j x l = x ∨ ∃ v ∈ l, lowAt j x l = v.getD j 0 := by
  induction l with
  | nil => intro x; exact .inl rfl
  | cons v l ih =>
    intro x
    have e : lowAt j x (v :: l) = lowAt j (min x (v.getD j 0)) l := rfl
    rw [e]
    rcases ih (x := min x (v.getD j 0)) with h | ⟨u, hu, h⟩
    · rw [h]
      rcases Int.le_total x (v.getD j 0) with h' | h'
      · exact .inl (by omega)
      · exact .inr ⟨v, by simp, by omega⟩
    · exact .inr ⟨u, by simp [hu], h⟩
theorem highAt_mem {j : Nat} {l : List (List Int)} : ∀ {x : Int}, highAt j x l = x ∨ ∃ v ∈ l, highAt j x l = v.getD j 0 := by
  induction l with
  | nil => intro x; exact .inl rfl
  | cons v l ih =>
    intro x
    have e : highAt j x (v :: l) = highAt j (max x (v.getD j 0)) l := rfl
    rw [e]
    rcases ih (x := max x (v.getD j 0)) with h | ⟨u, hu, h⟩
    · rw [h]
      rcases Int.le_total x (v.getD j 0) with h' | h'
      · exact .inr ⟨v, by simp, by omega⟩
      · exact .inl (by omega)
    · exact .inr ⟨u, by simp [hu], h⟩
def boundsOf (l : List Item) : List Int × List Int × Bool :=
  if okStore l = true then (match l with
    | [] => ([], [], false)
    | x :: r => (r.foldl (fun s y => minV s y.2.1) x.2.1, r.foldl (fun s y => maxV s y.2.1) x.2.1, true)) else ([], [], false)
theorem isItem_vec {x : Item} (h : isItem x = true) : isVec x.2.1 = true := (isItem_iff.1 h).2.1

theorem fold_pair {α A B : Type} (f : A → α → A) (g : B → α → B) (l : List α) : ∀ a b, l.foldl (fun (s : A × B) y => (f s.1 y, g s.2 y)) (a, b) = (l.foldl f a, l.foldl g b) := by
  induction l with
  | nil => intro a b; rfl
  | cons x l ih => intro a b; exact ih _ _
theorem minmax_inv {a b v : List Int} (ha : a.length = 4) (hb : b.length = 4) (hv : v.length = 4) : (minV a v).length = 4 ∧ (maxV b v).length = 4 := by
  simp [minV, maxV, ha, hb, hv]
theorem four {v : List Int} (h : v.length = 4) : ∃ a b c d, v = [a, b, c, d] := by
  match v, h with
  | [a, b, c, d], _ => exact ⟨a, b, c, d, rfl⟩

theorem implBounds_ok {l : List Item} (h : SmallS l) : M.impl_BoundsOf l = some (boundsOf l) := by
  unfold M.impl_BoundsOf boundsOf
  simp only [h.impl, Option.bind_some]
  cases ho : okStore l with
  | false => simp
  | true =>
    obtain ⟨hlen, hi, _⟩ := okStore_iff.1 ho
    simp only [Bool.not_true, cond_false, Option.bind_some, if_true]
    cases l with
    | nil => rfl
    | cons x r =>
      have e0 : (((x :: r).length : Int) == 0) = false := beq_eq_false_iff_ne.2 (by simp; omega)
      have hx := isItem_vec (hi x (by simp))
      obtain ⟨a, b, c, d, hv, _⟩ := isVec_four hx
      have hr : ∀ y ∈ r, y.2.1.length = 4 := fun y hy => isItem_len (hi y (by simp [hy]))
      simp only [List.length_cons] at hlen
      have eg : gidx (x :: r) 0 = some x := gi0
      have ega : garr 4 x.2.1 = some (x.2.1.take 4) := garr_ok (by rw [hv]; simp)
      have et : x.2.1.take 4 = x.2.1 := List.take_of_length_le (by rw [hv]; simp)
      have egs : gslice (x :: r) 1 ((x :: r).length : Int) = some r := by
        rw [gslice_ok (by omega) (by simp; omega) (by omega)]; simp
      simp only [e0, cond_false, eg, ega, egs, Option.bind_some, et]
      refine fold_bind (xs := r) (fun (s : List Int × List Int) i => (s.1, s.2, i)) (fun s y => (minV s.1 y.2.1, maxV s.2 y.2.1)) (fun i s => s.1.length = 4 ∧ s.2.length = 4) (fun s => (s.1, s.2)) (s0 := (x.2.1, x.2.1)) (by rw [hv]; simp) ?_ ?_ ?_
      · rintro ⟨lo, hg⟩ i hi ⟨h1, h2⟩
        have e1 : decide ((i : Int) < (r.length : Int)) = true := decide_eq_true (by omega)
        have hy := hr r[i] (List.getElem_mem _)
        simp only at h1 h2
        refine ⟨?_, minmax_inv h1 h2 hy⟩
        simp only [e1, cond_true, gidx_nat hi, Option.bind_some, w64_succ (i := i) (by omega)]
        generalize r[i] = y at hy
        obtain ⟨a0, a1, a2, a3, rfl⟩ := four h1
        obtain ⟨b0, b1, b2, b3, rfl⟩ := four h2
        obtain ⟨ky, v, ty⟩ := y
        obtain ⟨c0, c1, c2, c3, rfl⟩ := four hy
        rw [loop4 (s1 := ([min a0 c0, a1, a2, a3], [max b0 c0, b1, b2, b3], 1)) (s2 := ([min a0 c0, min a1 c1, a2, a3], [max b0 c0, max b1 c1, b2, b3], 2)) (s3 := ([min a0 c0, min a1 c1, min a2 c2, a3], [max b0 c0, max b1 c1, max b2 c2, b3], 3)) (s4 := ([min a0 c0, min a1 c1, min a2 c2, min a3 c3], [max b0 c0, max b1 c1, max b2 c2, max b3 c3], 4)) (r := ([min a0 c0, min a1 c1, min a2 c2, min a3 c3], [max b0 c0, max b1 c1, max b2 c2, max b3 c3]))]
        · rfl
        · simp only [l4, d04, cond_true, gi0, Option.bind_some, i01]; rfl
        · simp only [l4, d14, cond_true, gi1, Option.bind_some, i12]; rfl
        · simp only [l4, d24, cond_true, gi2, Option.bind_some, i23]; rfl
        · simp only [l4, d34, cond_true, gi3, Option.bind_some, i34]; rfl
        · simp only [l4, d44, cond_false]
      · intro s _; simp
      · intro _
        rw [fold_pair (fun s (y : Item) => minV s y.2.1) (fun s (y : Item) => maxV s y.2.1)]
/-- What the bounds are. -/
theorem bounds_vec {l : List Item} {x : Item} {r : List Item} (hl : l = x :: r) (ho : okStore l = true) :
    ∃ a b c d e f g i, (∀ k, (h : k < 4) → [a, b, c, d][k] = lowAt k (x.2.1.getD k 0) (r.map (·.2.1)) ∧ [e, f, g, i][k] = highAt k (x.2.1.getD k 0) (r.map (·.2.1))) ∧ boundsOf l = ([a, b, c, d], [e, f, g, i], true) := by
  obtain ⟨_, hi, _⟩ := okStore_iff.1 ho
  subst hl
  obtain ⟨a, b, c, d, hv, _⟩ := isVec_four (isItem_vec (hi x (by simp)))
  have hr : ∀ y ∈ r, isVec y.2.1 = true := fun y hy => isItem_vec (hi y (by simp [hy]))
  refine ⟨lowAt 0 a (r.map (·.2.1)), lowAt 1 b (r.map (·.2.1)), lowAt 2 c (r.map (·.2.1)), lowAt 3 d (r.map (·.2.1)), highAt 0 a (r.map (·.2.1)), highAt 1 b (r.map (·.2.1)), highAt 2 c (r.map (·.2.1)), highAt 3 d (r.map (·.2.1)), ?_, ?_⟩
  · intro k hk
    have : k = 0 ∨ k = 1 ∨ k = 2 ∨ k = 3 := by omega
    rcases this with rfl | rfl | rfl | rfl <;> simp [hv]
  · unfold boundsOf
    rw [if_pos ho]
    simp only [hv, fold_low hr, fold_high hr]
theorem gidx_vec {v : List Int} (hv : v.length = 4) {k : Nat} (hk : k < 4) : gidx v (k : Int) = some (v.getD k 0) := gidx_getD (by omega)

end Go.Vs

namespace Go.Vs

theorem mem_putS {l : List Item} {x y : Item} : y ∈ putS l x ↔ y = x ∨ (y ∈ l ∧ y.1 ≠ x.1) := by
  unfold putS
  simp only [List.mem_append, List.mem_cons, List.mem_filter, decide_eq_true_eq]
  constructor
  · rintro (⟨h1, h2⟩ | h | ⟨h1, h2⟩)
    · exact .inr ⟨h1, by omega⟩
    · exact .inl h
    · exact .inr ⟨h1, by omega⟩
  · rintro (h | ⟨h1, h2⟩)
    · exact .inr (.inl h)
    · rcases Int.lt_or_lt_of_ne h2 with h3 | h3
      · exact .inl ⟨h1, h3⟩
      · exact .inr (.inr ⟨h1, h3⟩)
/-- Items up to a key. -/
theorem filter_lt {l : List Item} {k : Int} (hp : l.Pairwise (fun x y => x.1 < y.1)) : l.filter (fun y => decide (y.1 < k)) = l.take (placeS l k) := by
  induction l with
  | nil => rfl
  | cons x l ih =>
    rw [List.pairwise_cons] at hp
    unfold placeS at ih ⊢
    rw [List.filter_cons, List.countP_cons]
    by_cases hx : x.1 < k
    · simp [hx, ih hp.2]
    · have h0 : l.countP (fun x => decide (x.1 < k)) = 0 := by
        rw [List.countP_eq_zero]; intro y hy; have := hp.1 y hy; simp; omega
      have h1 := ih hp.2
      rw [h0] at h1 ⊢
      simp [hx, h1]
theorem filter_gt {l : List Item} {k : Int} (hp : l.Pairwise (fun x y => x.1 < y.1)) : l.filter (fun y => decide (k < y.1)) = l.drop (placeS l k + if (l.any fun x => x.1 == k) = true then 1 else 0) := by
  induction l with
  | nil => rfl
  | cons x l ih =>
    rw [List.pairwise_cons] at hp
    have ih := ih hp.2
    unfold placeS at ih ⊢
    rw [List.filter_cons, List.countP_cons, List.any_cons]
    by_cases hx : x.1 < k
    · have h2 : ¬ k < x.1 := by omega
      have h3 : (x.1 == k) = false := beq_eq_false_iff_ne.2 (by omega)
      simp only [hx, h2, h3, decide_true, decide_false, Bool.false_eq_true, if_false, if_true, Bool.false_or, ih]
      rw [show List.countP (fun x => decide (x.1 < k)) l + 1 + (if (l.any fun x => x.1 == k) = true then 1 else 0) = (List.countP (fun x => decide (x.1 < k)) l + (if (l.any fun x => x.1 == k) = true then 1 else 0)) + 1 by omega, List.drop_succ_cons]
    · have h0 : l.countP (fun x => decide (x.1 < k)) = 0 := by
        rw [List.countP_eq_zero]; intro y hy; have := hp.1 y hy; simp; omega
      have hall : l.filter (fun y => decide (k < y.1)) = l := by
        rw [List.filter_eq_self]; intro y hy; have := hp.1 y hy; simp; omega
      rw [h0, hall]
      by_cases hk : x.1 = k
      · have h2 : ¬ k < x.1 := by omega
        simp [hk]
      · have h2 : k < x.1 := by omega
        have h3 : (x.1 == k) = false := beq_eq_false_iff_ne.2 hk
        have h4 : (l.any fun x => x.1 == k) = false := by
          rw [List.any_eq_false]; intro y hy; have := hp.1 y hy; simp; omega
        simp [hx, h2, h3, h4]
theorem putS_found {l : List Item} {x : Item} (hp : l.Pairwise (fun x y => x.1 < y.1)) (h : (l.any fun y => y.1 == x.1) = true) : putS l x = l.set (placeS l x.1) x := by
  obtain ⟨hlt, _, _⟩ := place_get hp h
  unfold putS
  rw [filter_lt hp, filter_gt hp, if_pos h, List.set_eq_take_append_cons_drop, if_pos hlt]
theorem putS_new {l : List Item} {x : Item} (hp : l.Pairwise (fun x y => x.1 < y.1)) (h : (l.any fun y => y.1 == x.1) = false) : putS l x = l.take (placeS l x.1) ++ x :: l.drop (placeS l x.1) := by
  unfold putS
  rw [filter_lt hp, filter_gt hp, h]; rfl

theorem copyItems_ok {l : List Item} (h : SmallS l) : M.impl_copyItems l = some l := by
  unfold M.impl_copyItems
  rw [gmake_ok (by omega) (by have := h.1; omega)]
  simp only [Option.bind_some, Int.toNat_natCast]
  rw [copy_loop (a := l) (g := fun x => M.impl_copyItem (x.1, x.2.1, x.2.2)) h.1 (fun x hx' => implCopy_ok (h.2 x hx'))]
  · rfl
  · intro s i hi hi' hg
    have e1 : decide ((i : Int) < (l.length : Int)) = true := decide_eq_true (by omega)
    simp only [e1, cond_true, gidx_nat hi, gidx_nat hi', Option.bind_some, hg, w64_succ (i := i) (by have := h.1; omega), Int.toNat_natCast]
  · intro s; simp
theorem gcopyAt_mid {α : Type} {A B ys : List α} {n i : Nat} (hA : A.length = i) : gcopyAt (A ++ B) i n ys = A ++ (ys.take n ++ B.drop (min n ys.length)) := by
  subst hA
  unfold gcopyAt
  rw [List.take_left, List.drop_append, List.drop_eq_nil_of_le (by omega), Nat.add_sub_cancel_left, List.nil_append]
theorem insert_ok {s : List Item} {x : Item} {i : Nat} (hi : i ≤ s.length) (hl : s.length ≤ 1000000) : M.slices_Insert_impl_Item_impl_Item s (i : Int) [x] = some (s.take i ++ x :: s.drop i) := by
  unfold M.slices_Insert_impl_Item_impl_Item
  have g1 : gslice s (i : Int) (s.length : Int) = some (s.drop i) := by
    rw [gslice_ok (by omega) (by omega) (by omega)]; simp
  have e1 : ((([x] : List Item).length : Int) == 0) = false := rfl
  simp only [g1, e1, cond_false, Option.bind_some]
  by_cases hc : i = s.length
  · have e2 : ((i : Int) == (s.length : Int)) = true := beq_iff_eq.2 (by omega)
    simp only [e2, cond_true]
    rw [gapp_ok (by simp; omega)]
    simp [hc]
  · have e2 : ((i : Int) == (s.length : Int)) = false := beq_eq_false_iff_ne.2 (by omega)
    have e3 : w64 ((s.length : Int) + (([x] : List Item).length : Int)) = ((s.length + 1 : Nat) : Int) := w64_id (by simp; omega) (by simp; omega)
    have e4 : decide ((s.length : Int) < ((s.length + 1 : Nat) : Int)) = true := decide_eq_true (by omega)
    have g2 : gslice s 0 (i : Int) = some (s.take i) := by
      rw [gslice_ok (by omega) (by omega) (by omega)]; simp
    have e5 : w64 (((s.length + 1 : Nat) : Int) - (i : Int)) = ((s.length + 1 - i : Nat) : Int) := by rw [w64_id (by omega) (by omega)]; omega
    have g3 : gappz (s.take i) ((s.length + 1 - i : Nat) : Int) ((0, [], 0) : Item) = some (s.take i ++ List.replicate (s.length + 1 - i) ((0, [], 0) : Item)) := by
      unfold gappz; rw [if_pos (by simp; omega)]; simp
    simp only [e2, cond_false, e3, e4, cond_true, g2, e5, g3, Option.bind_some]
    have hA : (s.take i).length = i := by rw [List.length_take]; omega
    have hL : (s.take i ++ List.replicate (s.length + 1 - i) ((0, [], 0) : Item)).length = s.length + 1 := by simp; omega
    have g4 : gslice (s.take i ++ List.replicate (s.length + 1 - i) ((0, [], 0) : Item)) (i : Int) ((s.take i ++ List.replicate (s.length + 1 - i) ((0, [], 0) : Item)).length : Int) = some (List.replicate (s.length + 1 - i) ((0, [], 0) : Item)) := by
      rw [gslice_ok (by omega) (by omega) (by omega)]
      simp only [Int.toNat_natCast, List.take_length]
      rw [List.drop_append_of_le_length (by simp; omega), List.drop_eq_nil_of_le (by simp; omega), List.nil_append]
    have c1 : gcopyAt (s.take i ++ List.replicate (s.length + 1 - i) ((0, [], 0) : Item)) ((i : Int)).toNat (List.replicate (s.length + 1 - i) ((0, [], 0) : Item)).length [x] = s.take i ++ x :: List.replicate (s.length - i) ((0, [], 0) : Item) := by
      rw [Int.toNat_natCast, gcopyAt_mid hA, List.take_of_length_le (l := [x]) (by simp; omega), List.drop_replicate]
      have : s.length + 1 - i - min (List.replicate (s.length + 1 - i) ((0, [], 0) : Item)).length ([x] : List Item).length = s.length - i := by
        simp only [List.length_replicate, List.length_cons, List.length_nil]; omega
      rw [this]; rfl
    have hL2 : (s.take i ++ x :: List.replicate (s.length - i) ((0, [], 0) : Item)).length = s.length + 1 := by simp; omega
    have e6 : w64 ((i : Int) + (([x] : List Item).length : Int)) = ((i + 1 : Nat) : Int) := w64_id (by simp; omega) (by simp; omega)
    have g5 : gslice (s.take i ++ x :: List.replicate (s.length - i) ((0, [], 0) : Item)) ((i + 1 : Nat) : Int) ((s.take i ++ x :: List.replicate (s.length - i) ((0, [], 0) : Item)).length : Int) = some (List.replicate (s.length - i) ((0, [], 0) : Item)) := by
      rw [gslice_ok (by omega) (by omega) (by omega)]
      simp only [Int.toNat_natCast, List.take_length]
      rw [List.drop_append, List.drop_eq_nil_of_le (by simp; omega)]
      have : i + 1 - (s.take i).length = 1 := by simp; omega
      rw [this]; simp
    simp only [g4, c1, e6, g5, Option.bind_some]
    congr 1
    have hA2 : (s.take i ++ [x]).length = i + 1 := by rw [List.length_append, hA]; rfl
    have := gcopyAt_mid (A := s.take i ++ [x]) (B := List.replicate (s.length - i) ((0, [], 0) : Item)) (ys := s.drop i) (n := (List.replicate (s.length - i) ((0, [], 0) : Item)).length) hA2
    rw [List.append_assoc, List.singleton_append] at this
    rw [Int.toNat_natCast, this, List.take_of_length_le (l := s.drop i) (by simp), List.drop_eq_nil_of_le (as := List.replicate (s.length - i) ((0, [], 0) : Item)) (by simp)]
    simp
theorem implPutItem_ok {l : List Item} {x : Item} (h : SmallS l) (hx : x.2.1.length ≤ 1048576) : M.impl_PutItem l (x.1, x.2.1, x.2.2) = some (putItem l x) := by
  unfold M.impl_PutItem putItem
  simp only [h.impl, implItem_ok (x := x) (by omega), Option.bind_some]
  cases h1 : okStore l with
  | false => simp
  | true =>
    cases h2 : isItem x with
    | false => simp
    | true =>
      obtain ⟨hl, hi, hp⟩ := okStore_iff.1 h1
      simp only [Bool.not_true, cond_false, Option.bind_some, placeOf_ok h1, true_and]
      cases ha : l.any (fun y => y.1 == x.1) with
      | true =>
        obtain ⟨hlt, _, _⟩ := place_get hp ha
        simp only [cond_true, copyItems_ok h, implCopy_ok hx, gidx_nat hlt, Option.bind_some, Int.toNat_natCast, putS_found hp ha, List.length_set]
        rw [if_pos hl]
      | false =>
        simp only [cond_false]
        have hpl := placeS_le (l := l) (k := x.1)
        rw [putS_new hp ha]
        have hlen : (l.take (placeS l x.1) ++ x :: l.drop (placeS l x.1)).length = l.length + 1 := by simp; omega
        rw [hlen]
        by_cases h16 : l.length = 16
        · have e : ((l.length : Int) == 16) = true := beq_iff_eq.2 (by omega)
          simp only [e, cond_true]
          rw [if_neg (by omega)]
        · have e : ((l.length : Int) == 16) = false := beq_eq_false_iff_ne.2 (by omega)
          simp only [e, cond_false, copyItems_ok h, implCopy_ok hx, Option.bind_some, insert_ok (x := x) hpl (by omega)]
          rw [if_pos (by omega)]
/-! ## What is drawn -/
theorem drawPut_ok (code : List UInt8) : ∃ l x, M.spec_DrawPutItem code = some (l, x.1, x.2.1, x.2.2) ∧ NearS l ∧ NearI x := by
  obtain ⟨r, h, g⟩ := newReader_ok code
  obtain ⟨l, r1, h1, g1, n⟩ := anyStore_ok (by omega) g
  obtain ⟨x, r2, h2, _, n2⟩ := anyItem_ok (by omega) g1
  exact ⟨l, x, by unfold M.spec_DrawPutItem; simp only [h, h1, h2, Option.bind_some], n, n2⟩
theorem NearI.le {x : Item} (h : NearI x) : x.2.1.length ≤ 1048576 := by have := h.2.1.1; omega
/-- What is put. -/
theorem putItem_some {l : List Item} {x : Item} (h : (putItem l x).2 = true) : okStore l = true ∧ isItem x = true ∧ (putS l x).length ≤ 16 ∧ putItem l x = (putS l x, true) ∧ okStore (putS l x) = true := by
  unfold putItem at h ⊢
  split at h
  · rename_i hc
    rw [if_pos hc]
    exact ⟨hc.1, hc.2.1, hc.2.2, rfl, by rw [putS_okStore hc.1 hc.2.1]; simpa using hc.2.2⟩
  · cases h
theorem putItem_small {l : List Item} {x : Item} : SmallS (putItem l x).1 := by
  cases h : (putItem l x).2 with
  | true => obtain ⟨_, _, _, e, ho⟩ := putItem_some h; rw [e]; exact okStore_small ho
  | false =>
    unfold putItem at h ⊢
    split at h
    · cases h
    · rename_i hc; rw [if_neg hc]; exact okStore_small okStore_nil
theorem putS_le {l : List Item} {x : Item} (hp : l.Pairwise (fun x y => x.1 < y.1)) : l.length ≤ (putS l x).length := by
  cases ha : l.any (fun y => y.1 == x.1) with
  | true => rw [putS_found hp ha, List.length_set]; omega
  | false => rw [putS_new hp ha]; simp; omega
section
variable {code : List UInt8}
/-- The bounds, by what they are. -/
theorem bounds_is {l : List Item} (hne : l ≠ []) (ho : okStore l = true) : ∃ lo hi, boundsOf l = (lo, hi, true) ∧ lo.length = 4 ∧ hi.length = 4 ∧ ∀ k, k < 4 →
    ((∀ y ∈ l, lo.getD k 0 ≤ y.2.1.getD k 0) ∧ ∃ y ∈ l, lo.getD k 0 = y.2.1.getD k 0) ∧ ((∀ y ∈ l, y.2.1.getD k 0 ≤ hi.getD k 0) ∧ ∃ y ∈ l, hi.getD k 0 = y.2.1.getD k 0) := by
  cases l with
  | nil => exact absurd rfl hne
  | cons x r =>
    obtain ⟨a, b, c, d, e, f, g, i, hab, hb⟩ := bounds_vec rfl ho
    refine ⟨_, _, hb, rfl, rfl, fun k hk => ?_⟩
    obtain ⟨e1, e2⟩ := hab k hk
    have g1 : [a, b, c, d].getD k 0 = lowAt k (x.2.1.getD k 0) (r.map (·.2.1)) := by
      rw [← e1]; simp [List.getD, hk]
    have g2 : [e, f, g, i].getD k 0 = highAt k (x.2.1.getD k 0) (r.map (·.2.1)) := by
      rw [← e2]; simp [List.getD, hk]
    rw [g1, g2]
    have hL := lowAt_le (j := k) (l := r.map (·.2.1)) (x := x.2.1.getD k 0)
    have hH := le_highAt (j := k) (l := r.map (·.2.1)) (x := x.2.1.getD k 0)
    refine ⟨⟨fun y hy => ?_, ?_⟩, fun y hy => ?_, ?_⟩
    · rcases List.mem_cons.1 hy with rfl | hy
      · exact hL.1
      · exact hL.2 _ (List.mem_map.2 ⟨y, hy, rfl⟩)
    · rcases lowAt_mem (j := k) (x := x.2.1.getD k 0) (l := r.map (·.2.1)) with h1 | ⟨v, hv', h1⟩
      · exact ⟨x, by simp, h1⟩
      · obtain ⟨y, hy, rfl⟩ := List.mem_map.1 hv'
        exact ⟨y, by simp [hy], h1⟩
    · rcases List.mem_cons.1 hy with rfl | hy
      · exact hH.1
      · exact hH.2 _ (List.mem_map.2 ⟨y, hy, rfl⟩)
    · rcases highAt_mem (j := k) (x := x.2.1.getD k 0) (l := r.map (·.2.1)) with h1 | ⟨v, hv', h1⟩
      · exact ⟨x, by simp, h1⟩
      · obtain ⟨y, hy, rfl⟩ := List.mem_map.1 hv'
        exact ⟨y, by simp [hy], h1⟩
theorem law_BoundsOfPut (code : List UInt8) : M.laws_FnBoundsOfPut code = some true := by
  unfold M.laws_FnBoundsOfPut
  by_cases hc : 1048576 < (code.length : Int)
  · simp [hc]
  obtain ⟨l, x, h, n, nx⟩ := drawPut_ok code
  have s := n.small
  simp only [hc, decide_false, cond_false, h, Option.bind_some, implPutItem_ok s nx.le, specPutItem_ok s (show x.2.1.length ≤ 1000000 by have := nx.2.1.1; omega), equalItems_ok putItem_small, decide_true, Bool.not_true, bne_self_eq_false]
  cases hf : (putItem l x).2 with
  | false => simp
  | true =>
    obtain ⟨ho, hx, h16, e, ho2⟩ := putItem_some hf
    obtain ⟨hl, hi, hp⟩ := okStore_iff.1 ho
    simp only [e, Bool.not_true, cond_false]
    by_cases h0 : l.length = 0
    · have : ((l.length : Int) == 0) = true := beq_iff_eq.2 (by omega)
      simp [this]
    have e0 : ((l.length : Int) == 0) = false := beq_eq_false_iff_ne.2 (by omega)
    simp only [e0, cond_false]
    by_cases hle : (putS l x).length = l.length
    · have : (((putS l x).length : Int) == (l.length : Int)) = true := beq_iff_eq.2 (by omega)
      simp [this]
    have e1 : (((putS l x).length : Int) == (l.length : Int)) = false := beq_eq_false_iff_ne.2 (by omega)
    have s2 := okStore_small ho2
    have hnew : (l.any fun y => y.1 == x.1) = false := by
      cases ha : l.any (fun y => y.1 == x.1) with
      | false => rfl
      | true => exact absurd (by rw [putS_found hp ha, List.length_set]) hle
    have hall : ∀ y ∈ l, y ∈ putS l x := fun y hy => mem_putS.2 (.inr ⟨hy, by
      rw [List.any_eq_false] at hnew; simpa using hnew y hy⟩)
    obtain ⟨lo, hi1, b1, l1, l2, k1⟩ := bounds_is (l := l) (by rintro rfl; simp at h0) ho
    obtain ⟨lo', hi', b2, l3, l4, k2⟩ := bounds_is (l := putS l x) (by intro he; have := putS_le (x := x) hp; rw [he] at this; simp at this; simp [this] at h0) ho2
    have hxl : x.2.1.length = 4 := isItem_len hx
    have step : ∀ k : Nat, k < 4 → lo'.getD k 0 = min (lo.getD k 0) (x.2.1.getD k 0) ∧ hi'.getD k 0 = max (hi1.getD k 0) (x.2.1.getD k 0) := by
      intro k hk
      obtain ⟨⟨m1, y1, hy1, n1⟩, m2, y2, hy2, n2⟩ := k1 k hk
      obtain ⟨⟨m3, y3, hy3, n3⟩, m4, y4, hy4, n4⟩ := k2 k hk
      have a1 := m3 y1 (hall _ hy1)
      have a2 := m3 x (mem_putS.2 (.inl rfl))
      have a3 := m4 y2 (hall _ hy2)
      have a4 := m4 x (mem_putS.2 (.inl rfl))
      have a5 : lo.getD k 0 ≤ y3.2.1.getD k 0 ∨ y3 = x := by
        rcases mem_putS.1 hy3 with r | ⟨hm, _⟩
        · exact .inr r
        · exact .inl (m1 _ hm)
      have a6 : y4.2.1.getD k 0 ≤ hi1.getD k 0 ∨ y4 = x := by
        rcases mem_putS.1 hy4 with r | ⟨hm, _⟩
        · exact .inr r
        · exact .inl (m2 _ hm)
      constructor
      · rcases a5 with a5 | rfl <;> omega
      · rcases a6 with a6 | rfl <;> omega
    simp only [e1, cond_false, implBounds_ok s, implBounds_ok s2, b1, b2, Option.bind_some, Bool.not_true]
    have each : ∀ k : Nat, k < 4 → (Option.bind ((gidx lo' (k : Int)).bind fun x82 =>
  (gidx lo (k : Int)).bind fun x88 =>
  (gidx x.2.1 (k : Int)).bind fun x95 =>
  (bif x82 != (min x88 x95) then
  some true
 else
  (gidx hi' (k : Int)).bind fun x103 =>
  (gidx hi1 (k : Int)).bind fun x109 =>
  (gidx x.2.1 (k : Int)).bind fun x116 =>
  some (x103 != (max x109 x116)))) fun o77 =>
  (bif o77 then
  some (.inr (.inr false))
 else
  some (.inl (w64 ((k : Int) + 1))))) = some ((.inl ((k + 1 : Nat) : Int)) : Int ⊕ (Unit ⊕ Bool)) := by
      intro k hk
      obtain ⟨q1, q2⟩ := step k hk
      simp only [gidx_vec l1 hk, gidx_vec l2 hk, gidx_vec l3 hk, gidx_vec l4 hk, gidx_vec hxl hk, Option.bind_some, q1, q2, bne_self_eq_false, cond_false, w64_succ (i := k) (by omega)]
    have t0 := each 0 (by omega)
    have t1 := each 1 (by omega)
    have t2 := each 2 (by omega)
    have t3 := each 3 (by omega)
    simp only [Int.cast_ofNat_Int] at t0 t1 t2 t3
    rw [loop4 (s1 := 1) (s2 := 2) (s3 := 3) (s4 := 4) (r := .inl ())]
    · rfl
    · simp only [d04, cond_true]; exact t0
    · simp only [d14, cond_true]; exact t1
    · simp only [d24, cond_true]; exact t2
    · simp only [d34, cond_true]; exact t3
    · simp only [d44, cond_false]
end
end Go.Vs
