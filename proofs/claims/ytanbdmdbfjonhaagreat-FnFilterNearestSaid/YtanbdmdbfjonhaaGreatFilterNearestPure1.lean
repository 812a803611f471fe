/- Plain facts of what the functions compute. -/
import Derived.Test.YtanbdmdbfjonhaaGreatFilterNearestEng1
import Derived.Test.YtanbdmdbfjonhaaGreatFilterNearestLib1
set_option linter.unusedVariables false
set_option linter.unusedSimpArgs false
namespace Go.Vs

theorem loop_run {S R : Type} {f : S → Option (S ⊕ R)} {r : R} (k : Nat) (st : Nat → S) (hs : ∀ i, i < k → f (st i) = some (.inl (st (i + 1)))) (he : f (st k) = some (.inr r)) : loopM f (st 0) = some r := by
  induction k generalizing st with
  | zero => rw [loopM_eq, he]; rfl
  | succ k ih =>
    rw [loopM_eq, hs 0 (by omega)]
    exact ih (fun i => st (i + 1)) (fun i hi => hs (i + 1) (by omega)) he

theorem w64_nat {n : Nat} (h : n < 9223372036854775808) : w64 (n : Int) = n := w64_id (by omega) (by omega)
theorem gidx_nat {α : Type} {xs : List α} {i : Nat} (h : i < xs.length) : gidx xs (i : Int) = some xs[i] := by
  unfold gidx
  rw [if_pos (by omega)]
  simp [h]
theorem gidx_lt' {α : Type} {xs : List α} {a : Int} (h0 : 0 ≤ a) (h : a < xs.length) : ∃ e, gidx xs a = some e ∧ e ∈ xs := by
  obtain ⟨n, rfl⟩ := Int.eq_ofNat_of_zero_le h0
  have hn : n < xs.length := by omega
  exact ⟨xs[n], gidx_nat hn, List.getElem_mem _⟩
theorem gapp_ok {α : Type} {xs ys : List α} (h : xs.length + ys.length ≤ 2147483648) : gapp xs ys = some (xs ++ ys) := by unfold gapp; rw [if_pos h]
theorem grem_ok {a b : Int} (h : b ≠ 0) : grem a b = some (a.tmod b) := by unfold grem; rw [if_neg h]
theorem gquo_ok {a b : Int} (h : b ≠ 0) : gquo a b = some (w64 (a.tdiv b)) := by unfold gquo; rw [if_neg h]
theorem gslice_ok {α : Type} {xs : List α} {l h : Int} (h0 : 0 ≤ l) (h1 : l ≤ h) (h2 : h ≤ xs.length) : gslice xs l h = some ((xs.take h.toNat).drop l.toNat) := by
  unfold gslice; rw [if_pos ⟨h0, h1, h2⟩]
theorem gmake_ok {α : Type} {k : Int} {z : α} (h0 : 0 ≤ k) (h1 : k ≤ 2147483648) : gmake k z = some (List.replicate k.toNat z) := by unfold gmake; rw [if_pos ⟨h0, h1⟩]
theorem garr_ok {α : Type} {k : Nat} {xs : List α} (h : k ≤ xs.length) : garr k xs = some (xs.take k) := by unfold garr; rw [if_pos h]

theorem tmod_range {a b : Int} (ha : 0 ≤ a) (hb : 0 < b) : 0 ≤ a.tmod b ∧ a.tmod b < b := by
  rw [Int.tmod_eq_emod_of_nonneg ha]
  exact ⟨Int.emod_nonneg _ (by omega), Int.emod_lt_of_pos _ hb⟩
theorem tdiv_range {a b : Int} (ha : 0 ≤ a) (hb : 0 < b) : 0 ≤ a.tdiv b ∧ a.tdiv b ≤ a := by
  rw [Int.tdiv_eq_ediv_of_nonneg ha]
  exact ⟨Int.ediv_nonneg ha (by omega), Int.ediv_le_self _ ha⟩
theorem gxor_range {a b : Int} (ha : 0 ≤ a) (ha' : a < 4611686018427387904) (hb : 0 ≤ b) (hb' : b < 4611686018427387904) : 0 ≤ gxor a b ∧ gxor a b < 4611686018427387904 := by
  obtain ⟨m, rfl⟩ := Int.eq_ofNat_of_zero_le ha
  obtain ⟨n, rfl⟩ := Int.eq_ofNat_of_zero_le hb
  have h1 : (BitVec.ofInt 64 (m : Int) ^^^ BitVec.ofInt 64 (n : Int)).toNat = m ^^^ n := by
    rw [BitVec.toNat_xor]
    have e : ∀ k : Nat, k < 4611686018427387904 → (BitVec.ofInt 64 (k : Int)).toNat = k := by
      intro k hk
      simp only [BitVec.toNat_ofInt]
      omega
    rw [e m (by omega), e n (by omega)]
  have h2 : m ^^^ n < 2 ^ 62 := Nat.xor_lt_two_pow (by omega) (by omega)
  have h3 : (2 : Nat) ^ 62 = 4611686018427387904 := by decide
  unfold gxor
  rw [h1]
  have : w64 ((m ^^^ n : Nat) : Int) = (m ^^^ n : Nat) := w64_nat (by omega)
  show 0 ≤ w64 _ ∧ w64 _ < _
  rw [this]
  omega
theorem loop_all {α R : Type} {xs : List α} {P : α → Bool} {r : R} {f : Int → Option (Int ⊕ (Unit ⊕ R))} (hs : ∀ i (h : i < xs.length), f (i : Int) = some (if P xs[i] then .inl ((i : Int) + 1) else .inr (.inr r))) (he : f (xs.length : Int) = some (.inr (.inl ()))) :
    loopM f 0 = some (if xs.all P then .inl () else .inr r) := by
  have key : ∀ m k : Nat, k + m = xs.length → loopM f (k : Int) = some (if (xs.drop k).all P then .inl () else .inr r) := by
    intro m
    induction m with
    | zero =>
      intro k hk
      have : k = xs.length := by omega
      subst this
      rw [loopM_eq, he]; simp [selim]
    | succ m ih =>
      intro k hk
      have hlt : k < xs.length := by omega
      rw [loopM_eq, hs k hlt, List.drop_eq_getElem_cons hlt]
      by_cases hp : P xs[k] = true
      · rw [if_pos hp]
        have := ih (k + 1) (by omega)
        simp only [Int.natCast_add, Int.cast_ofNat_Int] at this
        simp only [List.all_cons, hp, Bool.true_and, selim, this, Option.bind_some]
      · rw [if_neg hp]
        simp only [List.all_cons, Bool.not_eq_true] at hp ⊢
        simp only [hp, Bool.false_and, selim, Option.bind_some]; rfl
  have := key xs.length 0 (by omega)
  simpa using this
end Go.Vs

namespace Go.Vs

def Good (k : Nat) (r : List UInt8 × Int) : Prop := r.1.length ≤ 2000 ∧ 0 ≤ r.2 ∧ r.2 ≤ k
theorem Good.mono {k m : Nat} {r : List UInt8 × Int} (h : Good k r) (hm : k ≤ m) : Good m r := ⟨h.1, h.2.1, by have := h.2.2; omega⟩

theorem pick_ok {k : Nat} (hk : k ≤ 1000000) {r : List UInt8 × Int} (hr : Good k r) (n : Int) :
    ∃ x r', M.spec_reader_pick r n = some (x, r') ∧ Good (k + 1) r' ∧ 0 ≤ x ∧ (1 ≤ n → x < n) ∧ (n < 1 → x = 0) := by
  obtain ⟨b, p⟩ := r
  obtain ⟨h1, h2, h3⟩ := hr
  simp only at h1 h2 h3
  have e1 : w64 (p + 1) = p + 1 := w64_id (by omega) (by omega)
  have e2 : w64 (p + 1 - 1) = p := by rw [w64_id (by omega) (by omega)]; omega
  have hgood : Good (k + 1) (b, p + 1) := ⟨h1, by simp only; omega, by simp only; omega⟩
  unfold M.spec_reader_pick
  simp only [e1, e2]
  by_cases hn : n < 1
  · refine ⟨0, (b, p + 1), ?_, hgood, by omega, fun h => by omega, fun _ => rfl⟩
    simp [hn]
  · by_cases hb : b.length = 0
    · refine ⟨0, (b, p + 1), ?_, hgood, by omega, fun h => by omega, fun _ => rfl⟩
      simp [hn, hb]
    · have hbl : (b.length : Int) ≠ 0 := by omega
      have hbb : ((b.length : Int) == 0) = false := by simpa using hb
      simp only [hn, decide_false, cond_false, hbb, Option.bind_some]
      by_cases hp : p < (b.length : Int)
      · obtain ⟨e, he, _⟩ := gidx_lt' (xs := b) h2 hp
        have hE : w64 (e.toNat : Int) = e.toNat := w64_nat (by have := e.toNat_lt; omega)
        have hr := tmod_range (a := (e.toNat : Int)) (b := n) (by omega) (by omega)
        refine ⟨_, (b, p + 1), ?_, hgood, hr.1, fun _ => hr.2, fun h => h.elim⟩
        simp only [hp, decide_true, cond_true, he, Option.bind_some, hE, grem_ok (show n ≠ 0 by omega)]
      · simp only [hp, decide_false, cond_false]
        have hbp : 0 < (b.length : Int) := by omega
        have r1 := tmod_range (a := p) h2 hbp
        have e7 : w64 (w64 (p * 7) + 3) = p * 7 + 3 := by rw [w64_id (n := p * 7) (by omega) (by omega), w64_id (by omega) (by omega)]
        have r2 := tmod_range (a := p * 7 + 3) (b := (b.length : Int)) (by omega) hbp
        obtain ⟨x, hx, _⟩ := gidx_lt' (xs := b) r1.1 r1.2
        obtain ⟨y, hy, _⟩ := gidx_lt' (xs := b) r2.1 r2.2
        have hX : (x.toNat : Int) < 256 := by have := x.toNat_lt; omega
        have hY : (y.toNat : Int) < 256 := by have := y.toNat_lt; omega
        have r3 := tdiv_range (a := p) (b := (b.length : Int)) h2 hbp
        simp only [grem_ok hbl, Option.bind_some, hx, e7, hy, gquo_ok hbl]
        generalize hq : w64 (p.tdiv (b.length : Int)) = q
        have hq' : 0 ≤ q ∧ q ≤ 1000000 := by rw [← hq, w64_id (by omega) (by omega)]; omega
        have eX : w64 (x.toNat : Int) = x.toNat := w64_id (by omega) (by omega)
        have eY : w64 (y.toNat : Int) = y.toNat := w64_id (by omega) (by omega)
        simp only [eX, eY]
        have eX' : w64 ((x.toNat : Int) * 131) = x.toNat * 131 := w64_id (by omega) (by omega)
        have eY' : w64 ((y.toNat : Int) * 1117) = y.toNat * 1117 := w64_id (by omega) (by omega)
        have eP : w64 (p * 29) = p * 29 := w64_id (by omega) (by omega)
        have eQ : w64 (q * 53) = q * 53 := w64_id (by omega) (by omega)
        simp only [eX', eY', eP, eQ]
        have eA : w64 ((x.toNat : Int) * 131 + y.toNat * 1117) = x.toNat * 131 + y.toNat * 1117 := w64_id (by omega) (by omega)
        simp only [eA]
        have eB : w64 ((x.toNat : Int) * 131 + y.toNat * 1117 + p * 29) = x.toNat * 131 + y.toNat * 1117 + p * 29 := w64_id (by omega) (by omega)
        simp only [eB]
        have eC : w64 ((x.toNat : Int) * 131 + y.toNat * 1117 + p * 29 + q * 53) = x.toNat * 131 + y.toNat * 1117 + p * 29 + q * 53 := w64_id (by omega) (by omega)
        simp only [eC]
        generalize hZ : (x.toNat : Int) * 131 + y.toNat * 1117 + p * 29 + q * 53 = Z
        have hZ' : 0 ≤ Z ∧ Z ≤ 1000000000 := by omega
        have r4 := tdiv_range (a := Z) (b := 64) hZ'.1 (by omega)
        have eD : w64 (Z.tdiv 64) = Z.tdiv 64 := w64_id (by omega) (by omega)
        rw [eD]
        have r5 := gxor_range (a := Z) (b := Z.tdiv 64) (by omega) (by omega) (by omega) (by omega)
        have r6 := tmod_range (a := gxor Z (Z.tdiv 64)) (b := n) r5.1 (by omega)
        refine ⟨_, (b, p + 1), ?_, hgood, r6.1, fun _ => r6.2, fun h => h.elim⟩
        simp only [grem_ok (show n ≠ 0 by omega), Option.bind_some]

theorem one_ok {k : Nat} (hk : k ≤ 1000000) {r : List UInt8 × Int} (hr : Good k r) {list : List Int} (hl : list ≠ []) :
    ∃ x r', M.spec_reader_one r list = some (x, r') ∧ Good (k + 1) r' ∧ x ∈ list := by
  obtain ⟨x, r', h1, h2, h3, h4, _⟩ := pick_ok hk hr (list.length : Int)
  have hlen : 1 ≤ (list.length : Int) := by
    have : list.length ≠ 0 := by simpa using hl
    omega
  obtain ⟨e, he, hm⟩ := gidx_lt' h3 (h4 hlen)
  refine ⟨e, r', ?_, h2, hm⟩
  unfold M.spec_reader_one
  simp only [h1, Option.bind_some, he]

theorem coord_ok {k : Nat} (hk : k ≤ 900000) {r : List UInt8 × Int} (hr : Good k r) :
    ∃ x r', M.spec_someCoord r = some (x, r') ∧ Good (k + 3) r' ∧ -100 ≤ x ∧ x ≤ 100 := by
  obtain ⟨x1, r1, h1, g1, a1, b1, _⟩ := pick_ok (by omega) hr 201
  obtain ⟨x2, r2, h2, g2, a2, b2, _⟩ := pick_ok (by omega) g1 21
  have b1 := b1 (by omega)
  have b2 := b2 (by omega)
  have e1 : w64 (x1 - 100) = x1 - 100 := w64_id (by omega) (by omega)
  have e2 : w64 (x2 - 10) = x2 - 10 := w64_id (by omega) (by omega)
  obtain ⟨x3, r3, h3, g3, m3⟩ := one_ok (by omega) g2 (list := [0, 1, -1, 5, -7, 10, 3, 100, -100, x1 - 100, x2 - 10]) (by simp)
  refine ⟨x3, r3, ?_, g3, ?_⟩
  · unfold M.spec_someCoord
    simp only [h1, Option.bind_some, h2, e1, e2, h3]
  · simp only [List.mem_cons, List.not_mem_nil, or_false] at m3
    omega

def isVec (v : List Int) : Bool := decide (v.length = 4) && v.all fun x => decide (-100 ≤ x) && decide (x ≤ 100)
theorem isVec_iff {v : List Int} : isVec v = true ↔ v.length = 4 ∧ ∀ x ∈ v, -100 ≤ x ∧ x ≤ 100 := by
  unfold isVec; simp
theorem isVec_four {v : List Int} (h : isVec v = true) : ∃ a b c d, v = [a, b, c, d] ∧ (-100 ≤ a ∧ a ≤ 100) ∧ (-100 ≤ b ∧ b ≤ 100) ∧ (-100 ≤ c ∧ c ≤ 100) ∧ (-100 ≤ d ∧ d ≤ 100) := by
  obtain ⟨h1, h2⟩ := isVec_iff.1 h
  match v, h1 with
  | [a, b, c, d], _ => exact ⟨a, b, c, d, rfl, h2 a (by simp), h2 b (by simp), h2 c (by simp), h2 d (by simp)⟩

theorem vector_ok {k : Nat} (hk : k ≤ 800000) {r : List UInt8 × Int} (hr : Good k r) :
    ∃ v r', M.spec_someVector r = some (v, r') ∧ Good (k + 12) r' ∧ isVec v = true := by
  obtain ⟨x1, r1, h1, g1, a1, b1⟩ := coord_ok (by omega) hr
  obtain ⟨x2, r2, h2, g2, a2, b2⟩ := coord_ok (by omega) g1
  obtain ⟨x3, r3, h3, g3, a3, b3⟩ := coord_ok (by omega) g2
  obtain ⟨x4, r4, h4, g4, a4, b4⟩ := coord_ok (by omega) g3
  refine ⟨[x1, x2, x3, x4], r4, ?_, g4, isVec_iff.2 ⟨rfl, by simp only [List.mem_cons, List.not_mem_nil, or_false]; rintro x (rfl | rfl | rfl | rfl) <;> omega⟩⟩
  have e : ∀ n : Nat, n < 10 → w64 ((n : Int) + 1) = (n : Int) + 1 := fun n hn => w64_id (by omega) (by omega)
  have e0 : w64 ((0 : Int) + 1) = 1 := e 0 (by omega)
  have e1 : w64 ((1 : Int) + 1) = 2 := e 1 (by omega)
  have e2 : w64 ((2 : Int) + 1) = 3 := e 2 (by omega)
  have e3 : w64 ((3 : Int) + 1) = 4 := e 3 (by omega)
  have ga : ∀ (xs : List Int) (x : Int), xs.length < 10 → gapp xs [x] = some (xs ++ [x]) := fun xs x hx => gapp_ok (by simp; omega)
  unfold M.spec_someVector
  rw [loopM_eq]
  simp only [show decide ((0 : Int) < 4) = true from rfl, cond_true, h1, Option.bind_some, ga [] x1 (by simp), selim, e0, List.nil_append]
  rw [loopM_eq]
  simp only [show decide ((1 : Int) < 4) = true from rfl, cond_true, h2, Option.bind_some, ga [x1] x2 (by simp), selim, e1, List.cons_append, List.nil_append]
  rw [loopM_eq]
  simp only [show decide ((2 : Int) < 4) = true from rfl, cond_true, h3, Option.bind_some, ga [x1, x2] x3 (by simp), selim, e2, List.cons_append, List.nil_append]
  rw [loopM_eq]
  simp only [show decide ((3 : Int) < 4) = true from rfl, cond_true, h4, Option.bind_some, ga [x1, x2, x3] x4 (by simp), selim, e3, List.cons_append, List.nil_append]
  rw [loopM_eq]
  simp only [show decide ((4 : Int) < 4) = false from rfl, cond_false, Option.bind_some, selim]
end Go.Vs
namespace Go.Vs
def Near (v : List Int) : Prop := v.length ≤ 5 ∧ ∀ x ∈ v, -101 ≤ x ∧ x ≤ 101
theorem near_of {v : List Int} (h : isVec v = true) : Near v := by
  obtain ⟨h1, h2⟩ := isVec_iff.1 h
  exact ⟨by omega, fun x hx => by have := h2 x hx; omega⟩
theorem copy_ok {v : List Int} (h : v.length ≤ 1000000) : M.spec_copyInts v = some v := by
  unfold M.spec_copyInts
  rw [gapp_ok (by simp; omega)]; rfl
theorem spoil_ok {k : Nat} (hk : k ≤ 700000) {r : List UInt8 × Int} (hr : Good k r) {v : List Int} (hv : isVec v = true) :
    ∃ u r', M.spec_reader_spoil r v 101 = some (u, r') ∧ Good (k + 3) r' ∧ Near u := by
  obtain ⟨hl, hb⟩ := isVec_iff.1 hv
  obtain ⟨x1, r1, h1, g1, a1, b1, _⟩ := pick_ok (by omega) hr 20
  unfold M.spec_reader_spoil
  simp only [copy_ok (v := v) (by omega), Option.bind_some, h1]
  by_cases c0 : x1 = 0
  · refine ⟨v ++ [101], r1, ?_, g1.mono (by omega), ?_⟩
    · simp [c0, gapp_ok (xs := v) (ys := [101]) (by simp; omega)]
    · refine ⟨by simp; omega, fun x hx => ?_⟩
      rcases List.mem_append.1 hx with h | h
      · have := hb x h; omega
      · simp at h; omega
  · have e0 : (x1 == 0) = false := by simpa using c0
    simp only [e0, cond_false]
    have hpos : decide (0 < (v.length : Int)) = true := by simp; omega
    have hp' : 0 < v.length := by omega
    by_cases c1 : x1 = 1
    · refine ⟨v.drop 1, r1, ?_, g1.mono (by omega), by simp; omega, fun x hx => ?_⟩
      · have : gslice v 1 (v.length : Int) = some (v.drop 1) := by
          rw [gslice_ok (by omega) (by omega) (by omega)]; simp
        simp [c1, hp', this]
      · have := hb x (List.mem_of_mem_drop hx); omega
    · have e1 : (x1 == 1) = false := by simpa using c1
      simp only [e1, cond_false]
      by_cases c2 : x1 = 2
      · obtain ⟨i, r2, h2, g2, a2, b2, _⟩ := pick_ok (by omega) g1 (v.length : Int)
        obtain ⟨y, r3, h3, g3, m3⟩ := one_ok (by omega) g2 (list := [-1, 101, 0, 1]) (by simp)
        have b2 := b2 (by omega)
        obtain ⟨z, hz, _⟩ := gidx_lt' (xs := v) a2 b2
        refine ⟨v.set i.toNat y, r3, ?_, g3, by simp; omega, fun x hx => ?_⟩
        · simp [c2, hp', h2, h3, hz]
        · rcases List.mem_or_eq_of_mem_set hx with h | h
          · have := hb x h; omega
          · subst h
            simp only [List.mem_cons, List.not_mem_nil, or_false] at m3
            omega
      · have e2 : (x1 == 2) = false := by simpa using c2
        exact ⟨v, r1, by simp [e2], g1.mono (by omega), near_of hv⟩
theorem any_ok {k : Nat} (hk : k ≤ 600000) {r : List UInt8 × Int} (hr : Good k r) :
    ∃ v r', M.spec_anyVector r = some (v, r') ∧ Good (k + 16) r' ∧ Near v := by
  obtain ⟨x1, r1, h1, g1, a1, b1, _⟩ := pick_ok (by omega) hr 10
  obtain ⟨v, r2, h2, g2, hv⟩ := vector_ok (by omega) g1
  unfold M.spec_anyVector
  simp only [h1, Option.bind_some]
  by_cases c0 : x1 = 0
  · obtain ⟨u, r3, h3, g3, hu⟩ := spoil_ok (by omega) g2 hv
    exact ⟨u, r3, by simp [c0, h2, h3], g3, hu⟩
  · have e0 : (x1 == 0) = false := by simpa using c0
    exact ⟨v, r2, by simp [e0, h2], g2.mono (by omega), near_of hv⟩
theorem newReader_ok (code : List UInt8) : ∃ r, M.spec_newReader code = some r ∧ Good 0 r := by
  unfold M.spec_newReader
  by_cases h : 2000 < (code.length : Int)
  · refine ⟨(code.take 2000, 0), ?_, by simp; omega, by simp, by simp⟩
    have : gslice code 0 2000 = some (code.take 2000) := by
      rw [gslice_ok (by omega) (by omega) (by omega)]; simp
    simp [h, this]
  · exact ⟨(code, 0), by simp [h], by simp only; omega, by simp, by simp⟩

theorem implCoords_ok (v : List Int) (hb : v.length < 2000000) : M.impl_validCoords v = some (v.all fun x => decide (-100 ≤ x) && decide (x ≤ 100)) := by
  unfold M.impl_validCoords
  rw [loop_all (xs := v) (P := fun x => decide (-100 ≤ x) && decide (x ≤ 100)) (r := false)]
  · by_cases ha : (v.all fun x => decide (-100 ≤ x) && decide (x ≤ 100)) = true
    · simp only [ha, if_true, Option.bind_some, selim]
    · simp only [Bool.not_eq_true] at ha
      simp only [ha]; simp [selim]
  · intro i h
    have e1 : decide ((i : Int) < (v.length : Int)) = true := by simpa using h
    have e2 : w64 ((i : Int) + 1) = (i : Int) + 1 := w64_id (by omega) (by omega)
    simp only [e1, cond_true, gidx_nat h, Option.bind_some, e2]
    by_cases c1 : v[i] < -100
    · have c2 : ¬ (-100 ≤ v[i]) := by omega
      simp [c1, c2]
    · by_cases c3 : 100 < v[i]
      · have c4 : ¬ (v[i] ≤ 100) := by omega
        simp [c1, c3, c4]
      · simp [c1, c3, show -100 ≤ v[i] by omega, show v[i] ≤ 100 by omega]
  · simp
theorem impl_valid (v : List Int) (hb : v.length < 2000000) : M.impl_ValidVector v = some (isVec v) := by
  unfold M.impl_ValidVector
  simp only [implCoords_ok v hb, Option.bind_some]
  unfold isVec
  by_cases hl : v.length = 4
  · have e : ((v.length : Int) == 4) = true := by simp; omega
    rw [e, cond_true, decide_eq_true hl, Bool.true_and]
  · have e : ((v.length : Int) == 4) = false := by simp; omega
    rw [e, cond_false, decide_eq_false hl, Bool.false_and]
theorem spec_inR (n l h : Int) : M.spec_inRange n l h = some (decide (l ≤ n) && decide (n ≤ h)) := by
  unfold M.spec_inRange
  by_cases h1 : l ≤ n <;> simp [h1]
theorem spec_all (v : List Int) (l h : Int) (hb : v.length < 2000000) : M.spec_allIn v l h = some (v.all fun x => decide (l ≤ x) && decide (x ≤ h)) := by
  unfold M.spec_allIn
  rw [loop_all (xs := v) (P := fun x => decide (l ≤ x) && decide (x ≤ h)) (r := false)]
  · by_cases ha : (v.all fun x => decide (l ≤ x) && decide (x ≤ h)) = true
    · simp only [ha, if_true, Option.bind_some, selim]
    · simp only [Bool.not_eq_true] at ha
      simp [ha, selim]
  · intro i hi
    have e1 : decide ((i : Int) < (v.length : Int)) = true := by simpa using hi
    have e2 : w64 ((i : Int) + 1) = (i : Int) + 1 := w64_id (by omega) (by omega)
    simp only [e1, cond_true, gidx_nat hi, Option.bind_some, e2, spec_inR]
    cases (decide (l ≤ v[i]) && decide (v[i] ≤ h)) <;> rfl
  · simp
theorem spec_isVec (v : List Int) (hb : v.length < 2000000) : M.spec_isVector v = some (isVec v) := by
  unfold M.spec_isVector
  by_cases hl : v.length = 4
  · have e : ((v.length : Int) == 4) = true := by simp; omega
    simp [e, spec_all v _ _ hb, isVec, hl]
  · have e : ((v.length : Int) == 4) = false := by simp; omega
    simp [e, isVec, hl]
end Go.Vs

namespace Go.Vs

end Go.Vs

namespace Go.Vs

theorem loop4 {S R : Type} {f : S → Option (S ⊕ R)} {s0 s1 s2 s3 s4 : S} {r : R} (h0 : f s0 = some (.inl s1)) (h1 : f s1 = some (.inl s2)) (h2 : f s2 = some (.inl s3)) (h3 : f s3 = some (.inl s4)) (h4 : f s4 = some (.inr r)) : loopM f s0 = some r := by
  rw [loopM_eq, h0, Option.bind_some, selim, loopM_eq, h1, Option.bind_some, selim, loopM_eq, h2, Option.bind_some, selim, loopM_eq, h3, Option.bind_some, selim, loopM_eq, h4]; rfl
theorem gi0 {α : Type} {a : α} {l : List α} : gidx (a :: l) 0 = some a := gidx_nat (i := 0) (by simp)
theorem gi1 {α : Type} {a b : α} {l : List α} : gidx (a :: b :: l) 1 = some b := gidx_nat (i := 1) (by simp)
theorem gi2 {α : Type} {a b c : α} {l : List α} : gidx (a :: b :: c :: l) 2 = some c := gidx_nat (i := 2) (by simp)
theorem gi3 {α : Type} {a b c d : α} {l : List α} : gidx (a :: b :: c :: d :: l) 3 = some d := gidx_nat (i := 3) (by simp)
theorem i01 : w64 ((0 : Int) + 1) = 1 := w64_id (by omega) (by omega)
theorem i12 : w64 ((1 : Int) + 1) = 2 := w64_id (by omega) (by omega)
theorem i23 : w64 ((2 : Int) + 1) = 3 := w64_id (by omega) (by omega)
theorem i34 : w64 ((3 : Int) + 1) = 4 := w64_id (by omega) (by omega)
theorem d04 : decide ((0 : Int) < 4) = true := rfl
theorem d14 : decide ((1 : Int) < 4) = true := rfl
theorem d24 : decide ((2 : Int) < 4) = true := rfl
theorem d34 : decide ((3 : Int) < 4) = true := rfl
theorem d44 : decide ((4 : Int) < 4) = false := rfl
theorem l4 {α : Type} {a b c d : α} : (([a, b, c, d] : List α).length : Int) = 4 := rfl

def gap (x y : Int) : Int := max (x - y) (y - x)
theorem gap_nonneg (x y : Int) : 0 ≤ gap x y := by unfold gap; omega
def Co (x : Int) : Prop := -100 ≤ x ∧ x ≤ 100
theorem gap_le {x y : Int} (hx : Co x) (hy : Co y) : gap x y ≤ 200 := by unfold gap; unfold Co at hx hy; omega
theorem sq_bounds {g : Int} (h0 : 0 ≤ g) (h : g ≤ 200) : 0 ≤ g * g ∧ g ≤ g * g ∧ g * g ≤ 40000 := by
  refine ⟨Int.mul_nonneg h0 h0, ?_, ?_⟩
  · by_cases h1 : g = 0
    · subst h1; simp
    · have := Int.mul_le_mul_of_nonneg_right (show (1 : Int) ≤ g by omega) h0; omega
  · have := Int.mul_le_mul h h h0 (by omega); omega
def dk (k g0 g1 g2 g3 : Int) : Int :=
  if k = 1 then g0 + g1 + g2 + g3 else if k = 2 then max (max (max (max 0 g0) g1) g2) g3 else if k = 3 then g0 * g0 + g1 * g1 + g2 * g2 + g3 * g3 else if k = 4 then min g0 1 + min g1 1 + min g2 1 + min g3 1 else -1

theorem distanceOf_ok (k : Int) {g0 g1 g2 g3 : Int} (h0 : 0 ≤ g0) (h0' : g0 ≤ 200) (h1 : 0 ≤ g1) (h1' : g1 ≤ 200) (h2 : 0 ≤ g2) (h2' : g2 ≤ 200) (h3 : 0 ≤ g3) (h3' : g3 ≤ 200) :
    M.impl_distanceOf k [g0, g1, g2, g3] = some (dk k g0 g1 g2 g3) := by
  unfold M.impl_distanceOf
  have s0 := sq_bounds h0 h0'
  have s1 := sq_bounds h1 h1'
  have s2 := sq_bounds h2 h2'
  have s3 := sq_bounds h3 h3'
  by_cases k1 : k = 1
  · subst k1
    have e0 : w64 (0 + g0) = g0 := by rw [w64_id (by omega) (by omega)]; omega
    have e1 : w64 (g0 + g1) = g0 + g1 := w64_id (by omega) (by omega)
    have e2 : w64 (g0 + g1 + g2) = g0 + g1 + g2 := w64_id (by omega) (by omega)
    have e3 : w64 (g0 + g1 + g2 + g3) = g0 + g1 + g2 + g3 := w64_id (by omega) (by omega)
    rw [loop4 (s1 := (g0, 1)) (s2 := (g0 + g1, 2)) (s3 := (g0 + g1 + g2, 3)) (s4 := (g0 + g1 + g2 + g3, 4)) (r := .inl (g0 + g1 + g2 + g3))]
    · rfl
    · simp only [d04, gi0, i01, e0, selim, cond_true, Option.bind_some]; rfl
    · simp only [d14, gi1, i12, e1, selim, cond_true, Option.bind_some]; rfl
    · simp only [d24, gi2, i23, e2, selim, cond_true, Option.bind_some]; rfl
    · simp only [d34, gi3, i34, e3, selim, cond_true, Option.bind_some]; rfl
    · simp [d44]
  by_cases k2 : k = 2
  · subst k2
    rw [loop4 (s1 := (max 0 g0, 1)) (s2 := (max (max 0 g0) g1, 2)) (s3 := (max (max (max 0 g0) g1) g2, 3)) (s4 := (max (max (max (max 0 g0) g1) g2) g3, 4)) (r := .inl (max (max (max (max 0 g0) g1) g2) g3))]
    · rfl
    · simp only [d04, gi0, i01, selim, cond_true, Option.bind_some]; rfl
    · simp only [d14, gi1, i12, selim, cond_true, Option.bind_some]; rfl
    · simp only [d24, gi2, i23, selim, cond_true, Option.bind_some]; rfl
    · simp only [d34, gi3, i34, selim, cond_true, Option.bind_some]; rfl
    · simp [d44]
  by_cases k3 : k = 3
  · subst k3
    have q0 : w64 (g0 * g0) = g0 * g0 := w64_id (by omega) (by omega)
    have q1 : w64 (g1 * g1) = g1 * g1 := w64_id (by omega) (by omega)
    have q2 : w64 (g2 * g2) = g2 * g2 := w64_id (by omega) (by omega)
    have q3 : w64 (g3 * g3) = g3 * g3 := w64_id (by omega) (by omega)
    have e0 : w64 (0 + g0 * g0) = g0 * g0 := by rw [w64_id (by omega) (by omega)]; omega
    have e1 : w64 (g0 * g0 + g1 * g1) = g0 * g0 + g1 * g1 := w64_id (by omega) (by omega)
    have e2 : w64 (g0 * g0 + g1 * g1 + g2 * g2) = g0 * g0 + g1 * g1 + g2 * g2 := w64_id (by omega) (by omega)
    have e3 : w64 (g0 * g0 + g1 * g1 + g2 * g2 + g3 * g3) = g0 * g0 + g1 * g1 + g2 * g2 + g3 * g3 := w64_id (by omega) (by omega)
    rw [loop4 (s1 := (g0 * g0, 1)) (s2 := (g0 * g0 + g1 * g1, 2)) (s3 := (g0 * g0 + g1 * g1 + g2 * g2, 3)) (s4 := (g0 * g0 + g1 * g1 + g2 * g2 + g3 * g3, 4)) (r := .inl (g0 * g0 + g1 * g1 + g2 * g2 + g3 * g3))]
    · rfl
    · simp only [d04, gi0, i01, e0, q0, selim, cond_true, Option.bind_some]; rfl
    · simp only [d14, gi1, i12, e1, q1, selim, cond_true, Option.bind_some]; rfl
    · simp only [d24, gi2, i23, e2, q2, selim, cond_true, Option.bind_some]; rfl
    · simp only [d34, gi3, i34, e3, q3, selim, cond_true, Option.bind_some]; rfl
    · simp [d44]
  by_cases k4 : k = 4
  · subst k4
    have e0 : w64 (0 + min g0 1) = min g0 1 := by rw [w64_id (by omega) (by omega)]; omega
    have e1 : w64 (min g0 1 + min g1 1) = min g0 1 + min g1 1 := w64_id (by omega) (by omega)
    have e2 : w64 (min g0 1 + min g1 1 + min g2 1) = min g0 1 + min g1 1 + min g2 1 := w64_id (by omega) (by omega)
    have e3 : w64 (min g0 1 + min g1 1 + min g2 1 + min g3 1) = min g0 1 + min g1 1 + min g2 1 + min g3 1 := w64_id (by omega) (by omega)
    rw [loop4 (s1 := (min g0 1, 1)) (s2 := (min g0 1 + min g1 1, 2)) (s3 := (min g0 1 + min g1 1 + min g2 1, 3)) (s4 := (min g0 1 + min g1 1 + min g2 1 + min g3 1, 4)) (r := .inl (min g0 1 + min g1 1 + min g2 1 + min g3 1))]
    · rfl
    · simp only [d04, gi0, i01, e0, selim, cond_true, Option.bind_some]; rfl
    · simp only [d14, gi1, i12, e1, selim, cond_true, Option.bind_some]; rfl
    · simp only [d24, gi2, i23, e2, selim, cond_true, Option.bind_some]; rfl
    · simp only [d34, gi3, i34, e3, selim, cond_true, Option.bind_some]; rfl
    · simp [d44]
  have b1 : (k == 1) = false := by simpa using k1
  have b2 : (k == 2) = false := by simpa using k2
  have b3 : (k == 3) = false := by simpa using k3
  have b4 : (k == 4) = false := by simpa using k4
  rw [loopM_eq]
  simp [d04, gi0, b1, b2, b3, b4, selim, dk, k1, k2, k3, k4]

theorem gapsOf_ok {a b c d x y z w : Int} (ha : Co a) (hb : Co b) (hc : Co c) (hd : Co d) (hx : Co x) (hy : Co y) (hz : Co z) (hw : Co w) :
    M.impl_gapsOf [a, b, c, d] [x, y, z, w] = some [gap a x, gap b y, gap c z, gap d w] := by
  have e : ∀ p q, Co p → Co q → max (w64 (p - q)) (w64 (q - p)) = gap p q := by
    intro p q hp hq
    unfold Co at hp hq
    rw [w64_id (n := p - q) (by omega) (by omega), w64_id (n := q - p) (by omega) (by omega)]; rfl
  unfold M.impl_gapsOf
  rw [loop4 (s1 := ([gap a x, 0, 0, 0], 1)) (s2 := ([gap a x, gap b y, 0, 0], 2)) (s3 := ([gap a x, gap b y, gap c z, 0], 3)) (s4 := ([gap a x, gap b y, gap c z, gap d w], 4)) (r := [gap a x, gap b y, gap c z, gap d w])]
  · rfl
  · simp only [show List.replicate 4 (0 : Int) = [0, 0, 0, 0] from rfl, d04, gi0, i01, cond_true, Option.bind_some, e a x ha hx]; rfl
  · simp only [d14, gi1, i12, cond_true, Option.bind_some, e b y hb hy]; rfl
  · simp only [d24, gi2, i23, cond_true, Option.bind_some, e c z hc hz]; rfl
  · simp only [d34, gi3, i34, cond_true, Option.bind_some, e d w hd hw]; rfl
  · simp only [d44, cond_false]

theorem specDist_ok {k : Int} (hk : 1 ≤ k ∧ k ≤ 4) {a b c d x y z w : Int} (ha : Co a) (hb : Co b) (hc : Co c) (hd : Co d) (hx : Co x) (hy : Co y) (hz : Co z) (hw : Co w) :
    M.spec_dist k [a, b, c, d] [x, y, z, w] = some (dk k (gap a x) (gap b y) (gap c z) (gap d w)) := by
  have e : ∀ p q, Co p → Co q → M.spec_size (w64 (p - q)) = some (gap p q) := by
    intro p q hp hq
    unfold Co at hp hq
    unfold M.spec_size
    rw [w64_id (n := p - q) (by omega) (by omega), w64_id (n := 0 - (p - q)) (by omega) (by omega)]
    unfold gap
    congr 1; omega
  have t : ∀ g : Int, 0 ≤ g → M.spec_toInt (decide (0 < g)) = some (min g 1) := by
    intro g hg
    unfold M.spec_toInt
    by_cases h : 0 < g
    · simp [h]; omega
    · simp [h]; omega
  have ea := e a x ha hx
  have eb := e b y hb hy
  have ec := e c z hc hz
  have ed := e d w hd hw
  have h0 := gap_nonneg a x
  have h1 := gap_nonneg b y
  have h2 := gap_nonneg c z
  have h3 := gap_nonneg d w
  have h0' := gap_le ha hx
  have h1' := gap_le hb hy
  have h2' := gap_le hc hz
  have h3' := gap_le hd hw
  generalize gap a x = g0 at *
  generalize gap b y = g1 at *
  generalize gap c z = g2 at *
  generalize gap d w = g3 at *
  have s0 := sq_bounds h0 h0'
  have s1 := sq_bounds h1 h1'
  have s2 := sq_bounds h2 h2'
  have s3 := sq_bounds h3 h3'
  unfold M.spec_dist
  by_cases k1 : k = 1
  · subst k1
    have e0 : w64 (0 + g0) = g0 := by rw [w64_id (by omega) (by omega)]; omega
    have e1 : w64 (g0 + g1) = g0 + g1 := w64_id (by omega) (by omega)
    have e2 : w64 (g0 + g1 + g2) = g0 + g1 + g2 := w64_id (by omega) (by omega)
    have e3 : w64 (g0 + g1 + g2 + g3) = g0 + g1 + g2 + g3 := w64_id (by omega) (by omega)
    rw [loop4 (s1 := (g0, 1)) (s2 := (g0 + g1, 2)) (s3 := (g0 + g1 + g2, 3)) (s4 := (g0 + g1 + g2 + g3, 4)) (r := g0 + g1 + g2 + g3)]
    · rfl
    · simp only [l4, d04, gi0, i01, e0, ea, cond_true, Option.bind_some]; rfl
    · simp only [l4, d14, gi1, i12, e1, eb, cond_true, Option.bind_some]; rfl
    · simp only [l4, d24, gi2, i23, e2, ec, cond_true, Option.bind_some]; rfl
    · simp only [l4, d34, gi3, i34, e3, ed, cond_true, Option.bind_some]; rfl
    · simp [l4, d44]
  by_cases k2 : k = 2
  · subst k2
    rw [loop4 (s1 := (max 0 g0, 1)) (s2 := (max (max 0 g0) g1, 2)) (s3 := (max (max (max 0 g0) g1) g2, 3)) (s4 := (max (max (max (max 0 g0) g1) g2) g3, 4)) (r := max (max (max (max 0 g0) g1) g2) g3)]
    · rfl
    · simp only [l4, d04, gi0, i01, ea, cond_true, Option.bind_some]; rfl
    · simp only [l4, d14, gi1, i12, eb, cond_true, Option.bind_some]; rfl
    · simp only [l4, d24, gi2, i23, ec, cond_true, Option.bind_some]; rfl
    · simp only [l4, d34, gi3, i34, ed, cond_true, Option.bind_some]; rfl
    · simp [l4, d44]
  by_cases k3 : k = 3
  · subst k3
    have q0 : w64 (g0 * g0) = g0 * g0 := w64_id (by omega) (by omega)
    have q1 : w64 (g1 * g1) = g1 * g1 := w64_id (by omega) (by omega)
    have q2 : w64 (g2 * g2) = g2 * g2 := w64_id (by omega) (by omega)
    have q3 : w64 (g3 * g3) = g3 * g3 := w64_id (by omega) (by omega)
    have e0 : w64 (0 + g0 * g0) = g0 * g0 := by rw [w64_id (by omega) (by omega)]; omega
    have e1 : w64 (g0 * g0 + g1 * g1) = g0 * g0 + g1 * g1 := w64_id (by omega) (by omega)
    have e2 : w64 (g0 * g0 + g1 * g1 + g2 * g2) = g0 * g0 + g1 * g1 + g2 * g2 := w64_id (by omega) (by omega)
    have e3 : w64 (g0 * g0 + g1 * g1 + g2 * g2 + g3 * g3) = g0 * g0 + g1 * g1 + g2 * g2 + g3 * g3 := w64_id (by omega) (by omega)
    rw [loop4 (s1 := (g0 * g0, 1)) (s2 := (g0 * g0 + g1 * g1, 2)) (s3 := (g0 * g0 + g1 * g1 + g2 * g2, 3)) (s4 := (g0 * g0 + g1 * g1 + g2 * g2 + g3 * g3, 4)) (r := g0 * g0 + g1 * g1 + g2 * g2 + g3 * g3)]
    · rfl
    · simp only [l4, d04, gi0, i01, e0, q0, ea, cond_true, Option.bind_some]; rfl
    · simp only [l4, d14, gi1, i12, e1, q1, eb, cond_true, Option.bind_some]; rfl
    · simp only [l4, d24, gi2, i23, e2, q2, ec, cond_true, Option.bind_some]; rfl
    · simp only [l4, d34, gi3, i34, e3, q3, ed, cond_true, Option.bind_some]; rfl
    · simp [l4, d44]
  · have k4 : k = 4 := by omega
    subst k4
    have e0 : w64 (0 + min g0 1) = min g0 1 := by rw [w64_id (by omega) (by omega)]; omega
    have e1 : w64 (min g0 1 + min g1 1) = min g0 1 + min g1 1 := w64_id (by omega) (by omega)
    have e2 : w64 (min g0 1 + min g1 1 + min g2 1) = min g0 1 + min g1 1 + min g2 1 := w64_id (by omega) (by omega)
    have e3 : w64 (min g0 1 + min g1 1 + min g2 1 + min g3 1) = min g0 1 + min g1 1 + min g2 1 + min g3 1 := w64_id (by omega) (by omega)
    rw [loop4 (s1 := (min g0 1, 1)) (s2 := (min g0 1 + min g1 1, 2)) (s3 := (min g0 1 + min g1 1 + min g2 1, 3)) (s4 := (min g0 1 + min g1 1 + min g2 1 + min g3 1, 4)) (r := min g0 1 + min g1 1 + min g2 1 + min g3 1)]
    · rfl
    · simp only [l4, d04, gi0, i01, e0, ea, t g0 h0, cond_true, Option.bind_some]; simp only [show ((4 : Int) == 1) = false from rfl, show ((4 : Int) == 2) = false from rfl, show ((4 : Int) == 3) = false from rfl, cond_false, Option.bind_some, t g0 h0, e0]
    · simp only [l4, d14, gi1, i12, e1, eb, t g1 h1, cond_true, Option.bind_some]; simp only [show ((4 : Int) == 1) = false from rfl, show ((4 : Int) == 2) = false from rfl, show ((4 : Int) == 3) = false from rfl, cond_false, Option.bind_some, t g1 h1, e1]
    · simp only [l4, d24, gi2, i23, e2, ec, t g2 h2, cond_true, Option.bind_some]; simp only [show ((4 : Int) == 1) = false from rfl, show ((4 : Int) == 2) = false from rfl, show ((4 : Int) == 3) = false from rfl, cond_false, Option.bind_some, t g2 h2, e2]
    · simp only [l4, d34, gi3, i34, e3, ed, t g3 h3, cond_true, Option.bind_some]; simp only [show ((4 : Int) == 1) = false from rfl, show ((4 : Int) == 2) = false from rfl, show ((4 : Int) == 3) = false from rfl, cond_false, Option.bind_some, t g3 h3, e3]
    · simp [l4, d44]
end Go.Vs

namespace Go.Vs

def dist (k : Int) (a b : List Int) : Int :=
  if isVec a = true ∧ isVec b = true then dk k (gap (a.getD 0 0) (b.getD 0 0)) (gap (a.getD 1 0) (b.getD 1 0)) (gap (a.getD 2 0) (b.getD 2 0)) (gap (a.getD 3 0) (b.getD 3 0)) else -1
theorem dist_vec {k : Int} {a b c d x y z w : Int} (ha : isVec [a, b, c, d] = true) (hb : isVec [x, y, z, w] = true) : dist k [a, b, c, d] [x, y, z, w] = dk k (gap a x) (gap b y) (gap c z) (gap d w) := by
  unfold dist; rw [if_pos ⟨ha, hb⟩]; rfl
theorem isVec_cut {v : List Int} (h : isVec v = true) : ∃ a b c d, v = [a, b, c, d] ∧ Co a ∧ Co b ∧ Co c ∧ Co d := isVec_four h

theorem implDistance_ok (k : Int) {a b : List Int} (ha : a.length < 2000000) (hb : b.length < 2000000) : M.impl_Distance k a b = some (dist k a b) := by
  unfold M.impl_Distance
  simp only [impl_valid a ha, Option.bind_some]
  by_cases va : isVec a = true
  · simp only [va, Bool.not_true, cond_false, impl_valid b hb, Option.bind_some]
    by_cases vb : isVec b = true
    · simp only [vb, Bool.not_true, cond_false]
      obtain ⟨x0, x1, x2, x3, rfl, c0, c1, c2, c3⟩ := isVec_cut va
      obtain ⟨y0, y1, y2, y3, rfl, e0, e1, e2, e3⟩ := isVec_cut vb
      rw [dist_vec va vb, garr_ok (by simp), garr_ok (by simp)]
      simp only [Option.bind_some, List.take_succ_cons, List.take_zero, gapsOf_ok c0 c1 c2 c3 e0 e1 e2 e3]
      rw [distanceOf_ok k (gap_nonneg _ _) (gap_le c0 e0) (gap_nonneg _ _) (gap_le c1 e1) (gap_nonneg _ _) (gap_le c2 e2) (gap_nonneg _ _) (gap_le c3 e3)]
      rfl
    · have vb' : isVec b = false := by simpa using vb
      simp [vb', dist]
  · have va' : isVec a = false := by simpa using va
    simp [va', dist]
theorem kind_ok {k : Nat} (hk : k ≤ 900000) {r : List UInt8 × Int} (hr : Good k r) :
    ∃ x r', M.spec_anyKind r = some (x, r') ∧ Good (k + 1) r' := by
  obtain ⟨x3, r3, h3, g3, m3⟩ := one_ok (by omega) hr (list := [1, 2, 3, 4, 1, 2, 3, 4, 1, 2, 0, 5]) (by simp)
  exact ⟨x3, r3, by unfold M.spec_anyKind; simp only [h3, Option.bind_some], g3⟩
structure Gaps (g0 g1 g2 g3 : Int) : Prop where
  n0 : 0 ≤ g0
  n1 : 0 ≤ g1
  n2 : 0 ≤ g2
  n3 : 0 ≤ g3
  m0 : g0 ≤ 200
  m1 : g1 ≤ 200
  m2 : g2 ≤ 200
  m3 : g3 ≤ 200
end Go.Vs

namespace Go.Vs

end Go.Vs

namespace Go.Vs

end Go.Vs

namespace Go.Vs

end Go.Vs

namespace Go.Vs

end Go.Vs

namespace Go.Vs

end Go.Vs

namespace Go.Vs

end Go.Vs

namespace Go.Vs

abbrev Item := Int × (List Int) × Int
def isItem (x : Item) : Bool := (decide (1 ≤ x.1) && decide (x.1 ≤ 99)) && (isVec x.2.1 && (decide (0 ≤ x.2.2) && decide (x.2.2 ≤ 15)))
def okFrom : Int → List Item → Bool
  | _, [] => true
  | p, x :: l => (isItem x && decide (p < x.1)) && okFrom x.1 l
def okStore (l : List Item) : Bool := decide (l.length ≤ 16) && okFrom 0 l

theorem implItem_ok {x : Item} (h : x.2.1.length < 2000000) : M.impl_validItem (x.1, x.2.1, x.2.2) = some (isItem x) := by
  unfold M.impl_validItem M.impl_validKey M.impl_validTags isItem
  simp only [impl_valid x.2.1 h, Option.bind_some]
  by_cases h1 : 1 ≤ x.1
  · by_cases h2 : x.1 ≤ 99
    · by_cases h3 : isVec x.2.1 = true
      · by_cases h4 : 0 ≤ x.2.2
        · simp [h1, h2, h3, h4]
        · simp [h1, h2, h3, h4]
      · simp only [Bool.not_eq_true] at h3
        simp [h1, h2, h3]
    · simp [h1, h2]
  · simp [h1]
theorem specItem_ok {x : Item} (h : x.2.1.length < 2000000) : M.spec_validItem (x.1, x.2.1, x.2.2) = some (isItem x) := by
  unfold M.spec_validItem isItem
  simp only [spec_inR, spec_isVec x.2.1 h, Option.bind_some]
  cases (decide (1 ≤ x.1) && decide (x.1 ≤ 99)) <;> cases isVec x.2.1 <;> simp

theorem implStore_ok {l : List Item} (hb : ∀ x ∈ l, x.2.1.length < 2000000) : M.impl_ValidStore l = some (okStore l) := by
  unfold M.impl_ValidStore okStore
  by_cases hl : 16 < (l.length : Int)
  · have : ¬ l.length ≤ 16 := by omega
    simp [hl, this]
  have hl' : l.length ≤ 16 := by omega
  simp only [hl, decide_false, cond_false, hl', decide_true, Bool.true_and]
  have key : ∀ m k : Nat, ∀ p : Int, k + m = l.length → loopM (fun (s3 : (Int) × (Int)) => (bif decide (s3.2 < (l.length : Int)) then
  (gidx l s3.2).bind fun x8 =>
  Option.bind ((M.impl_validItem (x8.1, x8.2.1, x8.2.2)).bind fun r30 =>
  (bif !r30 then
  some true
 else
  some (decide (x8.1 ≤ s3.1)))) fun o29 =>
  (bif o29 then
  some (.inr (.inr false))
 else
  some (.inl (x8.1, w64 (s3.2 + 1))))
 else
  some (.inr (.inl ())))) (p, (k : Int)) = some (if okFrom p (l.drop k) then (.inl () : Unit ⊕ Bool) else .inr false) := by
    intro m
    induction m with
    | zero =>
      intro k p hk
      have : k = l.length := by omega
      subst this
      rw [loopM_eq]; simp [selim, okFrom]
    | succ m ih =>
      intro k p hk
      have hlt : k < l.length := by omega
      rw [loopM_eq, List.drop_eq_getElem_cons hlt]
      have e1 : decide ((k : Int) < (l.length : Int)) = true := by simpa using hlt
      have e2 : w64 ((k : Int) + 1) = ((k + 1 : Nat) : Int) := w64_id (by omega) (by omega)
      simp only [e1, cond_true, gidx_nat hlt, Option.bind_some, implItem_ok (hb _ (List.getElem_mem hlt)), e2, okFrom]
      by_cases h1 : isItem l[k] = true
      · by_cases h2 : p < l[k].1
        · have h2' : ¬ l[k].1 ≤ p := by omega
          simp only [h1, h2, h2', Bool.not_true, cond_false, Option.bind_some, decide_false, decide_true, Bool.and_self, Bool.true_and, selim]
          exact ih (k + 1) l[k].1 (by omega)
        · have h2' : l[k].1 ≤ p := by omega
          simp [h1, h2, h2', selim]
      · simp only [Bool.not_eq_true] at h1
        simp [h1, selim]
  have := key l.length 0 0 (by omega)
  simp only [Int.cast_ofNat_Int, List.drop_zero] at this
  rw [this]
  cases okFrom 0 l <;> rfl

def keyBefore (l : List Item) : Nat → Int
  | 0 => 0
  | k + 1 => (l.getD k (0, [], 0)).1
theorem specStore_ok {l : List Item} (hb : ∀ x ∈ l, x.2.1.length < 2000000) (hL : l.length < 2000000) : M.spec_validStore l = some (okStore l) := by
  unfold M.spec_validStore okStore
  have key : ∀ m k : Nat, k + m = l.length → loopM (fun (s2 : (Int)) => (bif decide (s2 < (l.length : Int)) then
  Option.bind ((gidx l s2).bind fun x8 =>
  (M.spec_validItem (x8.1, x8.2.1, x8.2.2)).bind fun r19 =>
  (bif !r19 then
  some true
 else
  (bif decide (0 < s2) then
  (gidx l s2).bind fun x24 =>
  (gidx l (w64 (s2 - 1))).bind fun x29 =>
  some (decide (x24.1 ≤ x29.1))
 else
  some false))) fun o7 =>
  (bif o7 then
  some (.inr (.inr false))
 else
  some (.inl (w64 (s2 + 1))))
 else
  some (.inr (.inl ())))) (k : Int) = some (if okFrom (keyBefore l k) (l.drop k) then (.inl () : Unit ⊕ Bool) else .inr false) := by
    intro m
    induction m with
    | zero =>
      intro k hk
      have : k = l.length := by omega
      subst this
      rw [loopM_eq]; simp [selim, okFrom]
    | succ m ih =>
      intro k hk
      have hlt : k < l.length := by omega
      rw [loopM_eq, List.drop_eq_getElem_cons hlt]
      have e1 : decide ((k : Int) < (l.length : Int)) = true := by simpa using hlt
      have e2 : w64 ((k : Int) + 1) = ((k + 1 : Nat) : Int) := w64_id (by omega) (by omega)
      have hnext : keyBefore l (k + 1) = l[k].1 := by simp [keyBefore, List.getD, hlt]
      have ih' := ih (k + 1) (by omega)
      rw [hnext] at ih'
      simp only [e1, cond_true, gidx_nat hlt, Option.bind_some, specItem_ok (hb _ (List.getElem_mem hlt)), e2, okFrom]
      by_cases h1 : isItem l[k] = true
      · simp only [h1, Bool.not_true, cond_false, Bool.true_and]
        match k, hlt with
        | 0, hlt =>
          have hpos : keyBefore l 0 < l[0].1 := by
            have : 1 ≤ l[0].1 := by
              unfold isItem at h1; simp at h1; exact h1.1.1
            show 0 < _; omega
          have e3 : decide ((0 : Int) < ((0 : Nat) : Int)) = false := rfl
          simp only [e3, cond_false, Option.bind_some, hpos, decide_true, Bool.true_and, selim]
          exact ih'
        | j + 1, hlt =>
          have e3 : decide ((0 : Int) < ((j + 1 : Nat) : Int)) = true := by simp
          have e4 : w64 (((j + 1 : Nat) : Int) - 1) = (j : Int) := by rw [w64_id (by omega) (by omega)]; omega
          have hj : j < l.length := by omega
          have hk : keyBefore l (j + 1) = l[j].1 := by simp [keyBefore, List.getD, hj]
          simp only [e3, cond_true, e4, gidx_nat hj, Option.bind_some, hk]
          by_cases h2 : l[j].1 < l[j + 1].1
          · have h2' : ¬ l[j + 1].1 ≤ l[j].1 := by omega
            simp only [h2, h2', decide_false, decide_true, cond_false, Bool.true_and, selim, Option.bind_some]
            exact ih'
          · have h2' : l[j + 1].1 ≤ l[j].1 := by omega
            simp [h2, h2', selim]
      · simp only [Bool.not_eq_true] at h1
        simp [h1, selim]
  have := key l.length 0 (by omega)
  simp only [Int.cast_ofNat_Int, List.drop_zero] at this
  rw [this]
  show _ = some (decide (l.length ≤ 16) && okFrom 0 l)
  have e : keyBefore l 0 = 0 := rfl
  rw [e]
  by_cases h16 : l.length ≤ 16
  · have : decide ((l.length : Int) ≤ 16) = true := by simp; omega
    cases okFrom 0 l <;> simp [selim, this, h16]
  · have : decide ((l.length : Int) ≤ 16) = false := by simp; omega
    cases okFrom 0 l <;> simp [selim, this, h16]
end Go.Vs

namespace Go.Vs

theorem copy_loop {α : Type} {a : List α} {z : α} {g : α → Option α} (ha : a.length ≤ 1048576) (hg : ∀ x ∈ a, g x = some x) {f : List α × Int → Option ((List α × Int) ⊕ List α)}
    (hs : ∀ (s : List α) (i : Nat) (h : i < a.length) (h' : i < s.length), g a[i] = some a[i] → f (s, (i : Int)) = some (.inl (s.set i a[i], ((i + 1 : Nat) : Int)))) (he : ∀ s, f (s, (a.length : Int)) = some (.inr s)) :
    loopM f (List.replicate a.length z, 0) = some a := by
  have hloop := loop_run (R := List α) (f := f) (r := a) a.length (fun i => (a.take i ++ List.replicate (a.length - i) z, (i : Int))) (by
    intro i hi
    have hl : i < (a.take i ++ List.replicate (a.length - i) z).length := by simp; omega
    rw [hs _ i hi hl (hg _ (List.getElem_mem hi))]
    have hr : List.replicate (a.length - i) z = z :: List.replicate (a.length - (i + 1)) z := by
      rw [show a.length - i = (a.length - (i + 1)) + 1 by omega, List.replicate_succ]
    rw [List.take_succ_eq_append_getElem hi, hr, List.set_append_right _ _ (by simp; omega)]
    have : i - (a.take i).length = 0 := by simp; omega
    rw [this]; simp only [List.set_cons_zero, List.append_assoc, List.cons_append, List.nil_append]) (by
    rw [he]; simp)
  simpa using hloop
end Go.Vs

namespace Go.Vs

theorem w64_succ {i : Nat} (h : i < 4000000000000000000) : w64 ((i : Int) + 1) = ((i + 1 : Nat) : Int) := w64_id (by omega) (by omega)

section
variable {α S T R U : Type} {xs : List α}
theorem loop_fold (st : S → Int → T) (g : S → α → S) (Inv : Nat → S → Prop) {fin : S → R} {f : T → Option (T ⊕ R)} {s0 : S} (h0 : Inv 0 s0)
    (hs : ∀ s i (h : i < xs.length), Inv i s → f (st s (i : Int)) = some (.inl (st (g s xs[i]) ((i + 1 : Nat) : Int))) ∧ Inv (i + 1) (g s xs[i]))
    (he : ∀ s, Inv xs.length s → f (st s (xs.length : Int)) = some (.inr (fin s))) :
    loopM f (st s0 0) = some (fin (xs.foldl g s0)) ∧ Inv xs.length (xs.foldl g s0) := by
  have key : ∀ m k : Nat, ∀ s, k + m = xs.length → Inv k s → loopM f (st s (k : Int)) = some (fin ((xs.drop k).foldl g s)) ∧ Inv xs.length ((xs.drop k).foldl g s) := by
    intro m
    induction m with
    | zero =>
      intro k s hk hi
      have : k = xs.length := by omega
      subst this
      rw [loopM_eq, he s hi]; simpa [selim] using hi
    | succ m ih =>
      intro k s hk hi
      have hlt : k < xs.length := by omega
      obtain ⟨h1, h2⟩ := hs s k hlt hi
      rw [loopM_eq, h1, List.drop_eq_getElem_cons hlt]
      exact ih (k + 1) _ (by omega) h2
  have := key xs.length 0 s0 (by omega) h0
  simpa using this
theorem fold_bind (st : S → Int → T) (g : S → α → S) (Inv : Nat → S → Prop) (fin : S → R) {f : T → Option (T ⊕ R)} {s0 : S} {k : R → Option U} {r : Option U} (h0 : Inv 0 s0)
    (hs : ∀ s i (h : i < xs.length), Inv i s → f (st s (i : Int)) = some (.inl (st (g s xs[i]) ((i + 1 : Nat) : Int))) ∧ Inv (i + 1) (g s xs[i]))
    (he : ∀ s, Inv xs.length s → f (st s (xs.length : Int)) = some (.inr (fin s)))
    (hk : Inv xs.length (xs.foldl g s0) → k (fin (xs.foldl g s0)) = r) : (loopM f (st s0 0)).bind k = r := by
  obtain ⟨h1, h2⟩ := loop_fold st g Inv (fin := fin) h0 hs he
  rw [h1]; exact hk h2
end

theorem foldl_filter {α : Type} (p : α → Bool) (l : List α) : ∀ s : List α, l.foldl (fun s x => if p x = true then s ++ [x] else s) s = s ++ l.filter p := by
  induction l with
  | nil => intro s; simp
  | cons x l ih =>
    intro s
    rw [List.foldl_cons, ih, List.filter_cons]
    by_cases h : p x = true <;> simp [h]
/-! ## Valid stores as lists that ascend -/
theorem okFrom_iff {l : List Item} : ∀ {p : Int}, okFrom p l = true ↔ (∀ x ∈ l, isItem x = true ∧ p < x.1) ∧ l.Pairwise (fun x y => x.1 < y.1) := by
  induction l with
  | nil => intro p; simp [okFrom]
  | cons x l ih =>
    intro p
    simp only [okFrom, Bool.and_eq_true, decide_eq_true_eq, ih, List.pairwise_cons, List.mem_cons, forall_eq_or_imp]
    constructor
    · rintro ⟨⟨h1, h2⟩, h3, h4⟩
      exact ⟨⟨⟨h1, h2⟩, fun y hy => ⟨(h3 y hy).1, by have := (h3 y hy).2; omega⟩⟩, fun y hy => (h3 y hy).2, h4⟩
    · rintro ⟨⟨⟨h1, h2⟩, h3⟩, h4, h5⟩
      exact ⟨⟨h1, h2⟩, fun y hy => ⟨(h3 y hy).1, h4 y hy⟩, h5⟩
theorem isItem_iff {x : Item} : isItem x = true ↔ (1 ≤ x.1 ∧ x.1 ≤ 99) ∧ isVec x.2.1 = true ∧ 0 ≤ x.2.2 ∧ x.2.2 ≤ 15 := by
  unfold isItem; simp only [Bool.and_eq_true, decide_eq_true_eq]
theorem okStore_iff {l : List Item} : okStore l = true ↔ l.length ≤ 16 ∧ (∀ x ∈ l, isItem x = true) ∧ l.Pairwise (fun x y => x.1 < y.1) := by
  unfold okStore
  simp only [Bool.and_eq_true, decide_eq_true_eq, okFrom_iff]
  constructor
  · rintro ⟨h1, h2, h3⟩; exact ⟨h1, fun x hx => (h2 x hx).1, h3⟩
  · rintro ⟨h1, h2, h3⟩; exact ⟨h1, fun x hx => ⟨h2 x hx, by have := (isItem_iff.1 (h2 x hx)).1.1; omega⟩, h3⟩
theorem okStore_sub {l m : List Item} (h : okStore l = true) (hs : m.Sublist l) : okStore m = true := by
  obtain ⟨h1, h2, h3⟩ := okStore_iff.1 h
  exact okStore_iff.2 ⟨Nat.le_trans hs.length_le h1, fun x hx => h2 x (hs.subset hx), h3.sublist hs⟩
theorem isItem_len {x : Item} (h : isItem x = true) : x.2.1.length = 4 := (isVec_iff.1 (isItem_iff.1 h).2.1).1

def SmallS (l : List Item) : Prop := l.length ≤ 1048576 ∧ ∀ x ∈ l, x.2.1.length ≤ 1048576
theorem SmallS.hb {l : List Item} (h : SmallS l) : ∀ x ∈ l, x.2.1.length < 2000000 := fun x hx => by have := h.2 x hx; omega
theorem SmallS.hL {l : List Item} (h : SmallS l) : l.length < 2000000 := by have := h.1; omega
theorem okStore_small {l : List Item} (h : okStore l = true) : SmallS l := by
  obtain ⟨h1, h2, h3⟩ := okStore_iff.1 h
  exact ⟨by omega, fun x hx => by have := isItem_len (h2 x hx); omega⟩
theorem SmallS.impl {l : List Item} (h : SmallS l) : M.impl_ValidStore l = some (okStore l) := implStore_ok h.hb
theorem SmallS.specv {l : List Item} (h : SmallS l) : M.spec_validStore l = some (okStore l) := specStore_ok h.hb h.hL
/-! ## Putting -/
def putS (l : List Item) (x : Item) : List Item := l.filter (fun y => decide (y.1 < x.1)) ++ x :: l.filter (fun y => decide (x.1 < y.1))
theorem copyItem_spec {x : Item} (h : x.2.1.length ≤ 1000000) : M.spec_copyItem (x.1, x.2.1, x.2.2) = some x := by
  unfold M.spec_copyItem; simp only [copy_ok h, Option.bind_some]
theorem specPut_ok {l : List Item} {x : Item} (hl : l.length ≤ 1000) (hx : ∀ y ∈ l, y.2.1.length ≤ 1000000) (hxx : x.2.1.length ≤ 1000000) : M.spec_put l (x.1, x.2.1, x.2.2) = some (putS l x) := by
  unfold M.spec_put
  simp only []
  refine fold_bind (xs := l) (fun s i => (s, i)) (fun s y => if (decide (y.1 < x.1)) = true then s ++ [y] else s) (fun i s => s.length ≤ i) (fun s => s) (by simp) ?_ ?_ ?_
  · intro s i h hs
    have e1 : decide ((i : Int) < (l.length : Int)) = true := by simpa using h
    simp only [e1, cond_true, gidx_nat h, Option.bind_some, w64_succ (i := i) (by omega)]
    by_cases hk : l[i].1 < x.1
    · simp only [hk, decide_true, cond_true, copyItem_spec (hx _ (List.getElem_mem h)), Option.bind_some, if_true]
      rw [gapp_ok (by simp; omega)]
      exact ⟨by first | rfl | trivial, by simp; omega⟩
    · simp only [hk, decide_false, cond_false, Option.bind_some, if_false, Bool.false_eq_true]
      exact ⟨by first | rfl | trivial, by omega⟩
  · intro s _; simp
  · intro hs
    rw [foldl_filter] at hs ⊢
    simp only [List.nil_append] at hs ⊢
    simp only [copyItem_spec hxx, Option.bind_some]
    rw [gapp_ok (by simp; omega)]
    simp only [Option.bind_some]
    refine fold_bind (xs := l) (fun s i => (s, i)) (fun s y => if (decide (x.1 < y.1)) = true then s ++ [y] else s) (fun i s => s.length ≤ 1001 + i) (fun s => s) (by simp; omega) ?_ ?_ ?_
    · intro s i h hs
      have e1 : decide ((i : Int) < (l.length : Int)) = true := by simpa using h
      simp only [e1, cond_true, gidx_nat h, Option.bind_some, w64_succ (i := i) (by omega)]
      by_cases hk : x.1 < l[i].1
      · simp only [hk, decide_true, cond_true, copyItem_spec (hx _ (List.getElem_mem h)), Option.bind_some, if_true]
        rw [gapp_ok (by simp; omega)]
        exact ⟨by first | rfl | trivial, by simp; omega⟩
      · simp only [hk, decide_false, cond_false, Option.bind_some, if_false, Bool.false_eq_true]
        exact ⟨by first | rfl | trivial, by omega⟩
    · intro s _; simp
    · intro _
      rw [foldl_filter]; simp [putS]
theorem putS_len {l : List Item} {x : Item} (h : l.Pairwise (fun x y => x.1 < y.1)) : (putS l x).length ≤ l.length + 1 := by
  unfold putS
  simp only [List.length_append, List.length_cons]
  have : ∀ l : List Item, (l.filter (fun y => decide (y.1 < x.1))).length + (l.filter (fun y => decide (x.1 < y.1))).length ≤ l.length := by
    intro l
    induction l with
    | nil => simp
    | cons y l ih =>
      rw [List.filter_cons, List.filter_cons]
      by_cases h1 : y.1 < x.1
      · have h2 : ¬ x.1 < y.1 := by omega
        simp [h1, h2]; omega
      · by_cases h2 : x.1 < y.1
        · simp [h1, h2]; omega
        · simp [h1, h2]; omega
  have := this l; omega
theorem putS_ok {l : List Item} {x : Item} (h : okStore l = true) (hx : isItem x = true) : (∀ y ∈ putS l x, isItem y = true) ∧ (putS l x).Pairwise (fun x y => x.1 < y.1) := by
  obtain ⟨_, h2, h3⟩ := okStore_iff.1 h
  unfold putS
  refine ⟨?_, ?_⟩
  · intro y hy
    simp only [List.mem_append, List.mem_cons, List.mem_filter] at hy
    rcases hy with hy | rfl | hy
    · exact h2 y hy.1
    · exact hx
    · exact h2 y hy.1
  · rw [List.pairwise_append, List.pairwise_cons]
    refine ⟨h3.sublist List.filter_sublist, ⟨fun y hy => ?_, h3.sublist List.filter_sublist⟩, fun y hy z hz => ?_⟩
    · simpa using (List.mem_filter.1 hy).2
    · have h4 : y.1 < x.1 := by simpa using (List.mem_filter.1 hy).2
      rcases List.mem_cons.1 hz with rfl | hz
      · exact h4
      · have : x.1 < z.1 := by simpa using (List.mem_filter.1 hz).2
        omega
theorem putS_okStore {l : List Item} {x : Item} (h : okStore l = true) (hx : isItem x = true) : okStore (putS l x) = decide ((putS l x).length ≤ 16) := by
  obtain ⟨h1, h2⟩ := putS_ok h hx
  rw [Bool.eq_iff_iff, okStore_iff, decide_eq_true_eq]; exact ⟨fun h => h.1, fun h => ⟨h, h1, h2⟩⟩
def putItem (l : List Item) (x : Item) : List Item × Bool := if okStore l = true ∧ isItem x = true ∧ (putS l x).length ≤ 16 then (putS l x, true) else ([], false)
theorem specPutItem_ok {l : List Item} {x : Item} (h : SmallS l) (hx : x.2.1.length ≤ 1000000) : M.spec_PutItem l (x.1, x.2.1, x.2.2) = some (putItem l x) := by
  unfold M.spec_PutItem putItem
  simp only [h.specv, specItem_ok (x := x) (by omega), Option.bind_some]
  cases h1 : okStore l with
  | false => simp
  | true =>
    cases h2 : isItem x with
    | false => simp
    | true =>
      obtain ⟨hl, hi, hp⟩ := okStore_iff.1 h1
      simp only [Bool.not_true, cond_false, Option.bind_some]
      rw [specPut_ok (by omega) (fun y hy => by have := isItem_len (hi y hy); omega) hx]
      have hs := putS_ok h1 h2
      have hn := putS_len (x := x) hp
      simp only [Option.bind_some, specStore_ok (l := putS l x) (fun y hy => by have := isItem_len (hs.1 y hy); omega) (by omega), putS_okStore h1 h2]
      by_cases h16 : (putS l x).length ≤ 16 <;> simp [h16]

/-! ## Draws -/
theorem item_ok {k : Nat} (hk : k ≤ 700000) {r : List UInt8 × Int} (hr : Good k r) :
    ∃ x r', M.spec_someItem (r.1, r.2) = some (x, (r'.1, r'.2)) ∧ Good (k + 14) r' ∧ isItem x = true ∧ x.1 ≤ 30 := by
  obtain ⟨x1, r1, h1, g1, a1, b1, _⟩ := pick_ok (by omega) hr 30
  obtain ⟨v, r2, h2, g2, hv⟩ := vector_ok (by omega) g1
  obtain ⟨x3, r3, h3, g3, a3, b3, _⟩ := pick_ok (by omega) g2 16
  have b1 := b1 (by omega)
  have b3 := b3 (by omega)
  refine ⟨(1 + x1, v, x3), r3, ?_, g3.mono (by omega), isItem_iff.2 ⟨⟨by simp only; omega, by simp only; omega⟩, hv, by simp only; omega, by simp only; omega⟩, by simp only; omega⟩
  unfold M.spec_someItem
  simp only [h1, h2, h3, Option.bind_some, w64_id (n := 1 + x1) (by omega) (by omega)]

def NearI (x : Item) : Prop := (0 ≤ x.1 ∧ x.1 ≤ 100) ∧ Near x.2.1 ∧ -1 ≤ x.2.2 ∧ x.2.2 ≤ 16
theorem nearI_of {x : Item} (h : isItem x = true) : NearI x := by
  obtain ⟨h1, h2, h3⟩ := isItem_iff.1 h
  exact ⟨by omega, near_of h2, by omega⟩
theorem anyItem_ok {k : Nat} (hk : k ≤ 500000) {r : List UInt8 × Int} (hr : Good k r) :
    ∃ x r', M.spec_anyItem (r.1, r.2) = some (x, (r'.1, r'.2)) ∧ Good (k + 40) r' ∧ NearI x := by
  obtain ⟨x, r1, h1, g1, hx, _⟩ := item_ok (by omega) hr
  obtain ⟨c, r2, h2, g2, _, _, _⟩ := pick_ok (by omega) g1 16
  obtain ⟨hk1, hv, ht⟩ := isItem_iff.1 hx
  unfold M.spec_anyItem
  simp only [h1, h2, Option.bind_some]
  by_cases c0 : c = 0
  · obtain ⟨y, r3, h3, g3, m3⟩ := one_ok (by omega) g2 (list := [0, 99, 100]) (by simp)
    refine ⟨(y, x.2.1, x.2.2), r3, by simp [c0, h3], g3.mono (by omega), ⟨?_, near_of hv, by simp only; omega⟩⟩
    simp only [List.mem_cons, List.not_mem_nil, or_false] at m3; simp only; omega
  · have e0 : (c == 0) = false := by simpa using c0
    simp only [e0, cond_false]
    by_cases c1 : c = 1
    · obtain ⟨v, r3, h3, g3, n3⟩ := any_ok (by omega) g2
      exact ⟨(x.1, v, x.2.2), r3, by simp [c1, h3], g3.mono (by omega), ⟨by simp only; omega, n3, by simp only; omega⟩⟩
    · have e1 : (c == 1) = false := by simpa using c1
      simp only [e1, cond_false]
      by_cases c2 : c = 2
      · obtain ⟨y, r3, h3, g3, m3⟩ := one_ok (by omega) g2 (list := [-1, 16]) (by simp)
        refine ⟨(x.1, x.2.1, y), r3, by simp [c2, h3], g3.mono (by omega), ⟨by simp only; omega, near_of hv, ?_⟩⟩
        simp only [List.mem_cons, List.not_mem_nil, or_false] at m3; simp only; omega
      · have e2 : (c == 2) = false := by simpa using c2
        exact ⟨x, r2, by simp [e2], g2.mono (by omega), nearI_of hx⟩

theorem okStore_nil : okStore [] = true := rfl
theorem store_loop {n : Nat} : ∀ {k : Nat} {r : List UInt8 × Int} {l : List Item}, k + 14 * n ≤ 400000 → n ≤ 100 → Good k r → okStore l = true →
    ∃ l' r', loopM (fun (s27 : ((List UInt8) × (Int)) × (List (Int × (List Int) × Int)) × (Int)) => (bif decide (0 < s27.2.2) then
  Option.bind ((M.spec_someItem (s27.1.1, s27.1.2)).bind fun r39 =>
  (M.spec_PutItem s27.2.1 (r39.1.1, r39.1.2.1, r39.1.2.2)).bind fun r55 =>
  (bif r55.2 then
  some ((r39.2.1, r39.2.2), r55.1)
 else
  some ((r39.2.1, r39.2.2), s27.2.1))) fun o38 =>
  some (.inl ((o38.1.1, o38.1.2), o38.2, w64 (s27.2.2 - 1)))
 else
  some (.inr ((s27.1.1, s27.1.2), s27.2.1)))) (r, l, (n : Int)) = some (r', l') ∧ Good (k + 14 * n) r' ∧ okStore l' = true := by
  induction n with
  | zero => intro k r l _ _ hr hl; exact ⟨l, r, by rw [loopM_eq]; simp [selim], hr.mono (by omega), hl⟩
  | succ n ih =>
    intro k r l hk hn hr hl
    obtain ⟨x, r1, h1, g1, hx, _⟩ := item_ok (by omega) hr
    rw [loopM_eq]
    have e1 : decide ((0 : Int) < ((n + 1 : Nat) : Int)) = true := decide_eq_true (by omega)
    have e2 : w64 (((n + 1 : Nat) : Int) - 1) = (n : Int) := by rw [w64_id (by omega) (by omega)]; omega
    simp only [e1, cond_true, h1, Option.bind_some, specPutItem_ok (x := x) (okStore_small hl) (by have := isItem_len hx; omega), e2]
    by_cases hp : (putItem l x).2 = true
    · have hok : okStore (putItem l x).1 = true := by
        unfold putItem at hp ⊢
        split
        · rename_i h; simp only; rw [putS_okStore hl hx]; simpa using h.2.2
        · rename_i h; rw [if_neg h] at hp; cases hp
      obtain ⟨l', r', h2, h3, h4⟩ := ih (k := k + 14) (r := r1) (l := (putItem l x).1) (by omega) (by omega) g1 hok
      refine ⟨l', r', ?_, h3.mono (by omega), h4⟩
      simp only [hp, cond_true, Option.bind_some, selim]; exact h2
    · simp only [Bool.not_eq_true] at hp
      obtain ⟨l', r', h2, h3, h4⟩ := ih (k := k + 14) (r := r1) (l := l) (by omega) (by omega) g1 hl
      refine ⟨l', r', ?_, h3.mono (by omega), h4⟩
      simp only [hp, cond_false, Option.bind_some, selim]; exact h2
theorem someStore_ok {k : Nat} (hk : k ≤ 300000) {r : List UInt8 × Int} (hr : Good k r) :
    ∃ l r', M.spec_someStore (r.1, r.2) = some (l, (r'.1, r'.2)) ∧ Good (k + 281) r' ∧ okStore l = true := by
  obtain ⟨x, r1, h1, g1, m1⟩ := one_ok (by omega) hr (list := [4, 6, 8, 3, 1, 0, 20, 12]) (by simp)
  obtain ⟨n, rfl, hn⟩ : ∃ n : Nat, x = (n : Int) ∧ n ≤ 20 := ⟨x.toNat, by simp only [List.mem_cons, List.not_mem_nil, or_false] at m1; omega, by simp only [List.mem_cons, List.not_mem_nil, or_false] at m1; omega⟩
  obtain ⟨l, r2, h2, g2, hl⟩ := store_loop (n := n) (k := k + 1) (r := r1) (l := []) (by omega) (by omega) g1 okStore_nil
  refine ⟨l, r2, ?_, g2.mono (by omega), hl⟩
  unfold M.spec_someStore
  simp only [h1, Option.bind_some]
  rw [show ((r1.1, r1.2), ([] : List Item), (n : Int)) = (r1, [], (n : Int)) from rfl, h2]; rfl
def NearS (l : List Item) : Prop := l.length ≤ 17 ∧ ∀ x ∈ l, NearI x
theorem NearS.small {l : List Item} (h : NearS l) : SmallS l := ⟨by have := h.1; omega, fun x hx => by have := (h.2 x hx).2.1.1; omega⟩
theorem nearS_of {l : List Item} (h : okStore l = true) : NearS l := by
  obtain ⟨h1, h2, _⟩ := okStore_iff.1 h
  exact ⟨by omega, fun x hx => nearI_of (h2 x hx)⟩
theorem anyStore_ok {k : Nat} (hk : k ≤ 200000) {r : List UInt8 × Int} (hr : Good k r) :
    ∃ l r', M.spec_anyStore (r.1, r.2) = some (l, (r'.1, r'.2)) ∧ Good (k + 400) r' ∧ NearS l := by
  obtain ⟨l, r1, h1, g1, hl⟩ := someStore_ok (by omega) hr
  obtain ⟨c, r2, h2, g2, _, _, _⟩ := pick_ok (by omega) g1 20
  have hN := nearS_of hl
  obtain ⟨hlen, hit, _⟩ := okStore_iff.1 hl
  unfold M.spec_anyStore
  simp only [h1, h2, Option.bind_some]
  by_cases c0 : c = 0
  · obtain ⟨x, r3, h3, g3, hx⟩ := anyItem_ok (by omega) g2
    refine ⟨l ++ [x], r3, ?_, g3.mono (by omega), by simp; omega, ?_⟩
    · simp only [c0, show ((0 : Int) == 0) = true from rfl, cond_true, h3, Option.bind_some]
      rw [gapp_ok (by simp; omega)]; rfl
    · intro y hy
      rcases List.mem_append.1 hy with h | h
      · exact hN.2 y h
      · simp only [List.mem_singleton] at h; subst h; exact hx
  · have e0 : (c == 0) = false := by simpa using c0
    simp only [e0, cond_false]
    by_cases c1 : c = 1
    · by_cases hpos : 0 < l.length
      · have e1 : decide (0 < (l.length : Int)) = true := by simp; omega
        obtain ⟨i, r3, h3, g3, a3, b3, _⟩ := pick_ok (by omega) g2 (l.length : Int)
        have b3 := b3 (by omega)
        obtain ⟨v, r4, h4, g4, n4⟩ := any_ok (by omega) g3
        obtain ⟨y, hy, my⟩ := gidx_lt' (xs := l) a3 b3
        refine ⟨l.set i.toNat (y.1, v, y.2.2), r4, ?_, g4.mono (by omega), by simp; omega, ?_⟩
        · simp only [c1, show ((1 : Int) == 1) = true from rfl, cond_true, e1, h3, h4, hy, Option.bind_some]
        · intro z hz
          rcases List.mem_or_eq_of_mem_set hz with h | h
          · exact hN.2 z h
          · subst h; exact ⟨(hN.2 y my).1, n4, (hN.2 y my).2.2⟩
      · have e1 : decide (0 < (l.length : Int)) = false := decide_eq_false (by omega)
        exact ⟨l, r2, by simp only [c1, show ((1 : Int) == 1) = true from rfl, cond_true, e1, cond_false, Option.bind_some], g2.mono (by omega), hN⟩
    · have e1 : (c == 1) = false := by simpa using c1
      exact ⟨l, r2, by simp [e1], g2.mono (by omega), hN⟩
end Go.Vs

namespace Go.Vs

def cmpI (x y : Int) : Int := if x < y then -1 else if y < x then 1 else 0
theorem compare_ok (x y : Int) : M.cmp_Compare_int x y = some (cmpI x y) := by
  unfold M.cmp_Compare_int M.cmp_isNaN_int cmpI
  simp only [bne_self_eq_false, Option.bind_some, cond_false]
  by_cases h1 : x < y
  · simp [h1]
  · by_cases h2 : y < x <;> simp [h1, h2]
theorem cmpI_neg {x y : Int} : cmpI x y < 0 ↔ x < y := by unfold cmpI; split <;> (try split) <;> omega
theorem cmpI_zero {x y : Int} : cmpI x y = 0 ↔ x = y := by unfold cmpI; split <;> (try split) <;> omega
theorem cmpI_pos {x y : Int} : 0 < cmpI x y ↔ y < x := by unfold cmpI; split <;> (try split) <;> omega

theorem clone_ok {v : List Int} (h : v.length ≤ 1048576) : M.slices_Clone_int_int v = some v := by
  unfold M.slices_Clone_int_int; rw [gapp_ok (by simp; omega)]; rfl
theorem implCopy_ok {x : Item} (h : x.2.1.length ≤ 1048576) : M.impl_copyItem (x.1, x.2.1, x.2.2) = some x := by
  unfold M.impl_copyItem; simp only [clone_ok h, Option.bind_some]
def zItem : Item := (0, [], 0)
end Go.Vs

namespace Go.Vs

section
variable {α S T R U : Type} {xs : List α}
end

theorem isItem_vec {x : Item} (h : isItem x = true) : isVec x.2.1 = true := (isItem_iff.1 h).2.1

end Go.Vs

namespace Go.Vs

/-! ## InBox -/
end Go.Vs

namespace Go.Vs

def isKind (k : Int) : Bool := decide (1 ≤ k) && decide (k ≤ 4)
theorem isKind_iff {k : Int} : isKind k = true ↔ 1 ≤ k ∧ k ≤ 4 := by unfold isKind; simp
theorem implKind_ok (k : Int) : M.impl_validKind k = some (isKind k) := by
  unfold M.impl_validKind isKind
  by_cases h : 1 ≤ k <;> simp [h]
theorem specKind_ok (k : Int) : M.spec_validKind k = some (isKind k) := by
  unfold M.spec_validKind; simp only [spec_inR, Option.bind_some]; rfl
theorem specDist_vec {k : Int} {a b : List Int} (hk : isKind k = true) (ha : isVec a = true) (hb : isVec b = true) : M.spec_dist k a b = some (dist k a b) := by
  obtain ⟨x0, x1, x2, x3, rfl, c0, c1, c2, c3⟩ := isVec_cut ha
  obtain ⟨y0, y1, y2, y3, rfl, e0, e1, e2, e3⟩ := isVec_cut hb
  rw [dist_vec ha hb]
  exact specDist_ok (isKind_iff.1 hk) c0 c1 c2 c3 e0 e1 e2 e3
theorem implDist_vec {k : Int} {a b : List Int} (ha : isVec a = true) (hb : isVec b = true) : M.impl_Distance k a b = some (dist k a b) :=
  implDistance_ok k (by rw [(isVec_iff.1 ha).1]; omega) (by rw [(isVec_iff.1 hb).1]; omega)

theorem itemOf_ok {l : List Item} {k : Int} (h : l.length < 2000000) : M.laws_itemOf l k = some ((l.find? fun x => x.1 == k).getD zItem) := by
  unfold M.laws_itemOf
  have key : ∀ m i : Nat, i + m = l.length → ∃ r, loopM (fun (s4 : (Int)) => ((bif decide (s4 < (l.length : Int)) then
  (gidx l s4).bind fun x9 =>
  (bif x9.1 == k then
  (gidx l s4).bind fun x16 =>
  some (.inr (.inr (x16.1, x16.2.1, x16.2.2)))
 else
  some (.inl (w64 (s4 + 1))))
 else
  some (.inr (.inl ()))) : Option (Int ⊕ (Unit ⊕ Item)))) (i : Int) = some r ∧ r = (match (l.drop i).find? (fun x => x.1 == k) with | some x => .inr x | none => (.inl () : Unit ⊕ Item)) := by
    intro m
    induction m with
    | zero =>
      intro i hi
      have : i = l.length := by omega
      subst this
      exact ⟨.inl (), by rw [loopM_eq]; simp [selim], by simp⟩
    | succ m ih =>
      intro i hi
      have hlt : i < l.length := by omega
      have e1 : decide ((i : Int) < (l.length : Int)) = true := decide_eq_true (by omega)
      rw [loopM_eq, List.drop_eq_getElem_cons hlt, List.find?_cons]
      simp only [e1, cond_true, gidx_nat hlt, Option.bind_some, w64_succ (i := i) (by omega)]
      cases hc : l[i].1 == k with
      | true => exact ⟨_, rfl, rfl⟩
      | false =>
        simp only [cond_false, selim, Option.bind_some]
        exact ih (i + 1) (by omega)
  obtain ⟨r, h1, h2⟩ := key l.length 0 (by omega)
  simp only [Int.cast_ofNat_Int, List.drop_zero] at h1 h2
  rw [h1, h2]
  cases l.find? (fun x => x.1 == k) <;> rfl
theorem find_key {l : List Item} {x : Item} (hp : l.Pairwise (fun x y => x.1 < y.1)) (hx : x ∈ l) : l.find? (fun y => y.1 == x.1) = some x := by
  obtain ⟨i, hi, rfl⟩ := List.getElem_of_mem hx
  rw [List.find?_eq_some_iff_getElem]
  refine ⟨by simp, i, hi, rfl, fun j hj => ?_⟩
  have := List.pairwise_iff_getElem.1 hp _ _ (by omega) hi hj
  simp; omega
end Go.Vs

namespace Go.Vs

theorem copyItems_ok {l : List Item} (h : SmallS l) : M.impl_copyItems l = some l := by
  unfold M.impl_copyItems
  rw [gmake_ok (by omega) (by have := h.1; omega)]
  simp only [Option.bind_some, Int.toNat_natCast]
  rw [copy_loop (a := l) (g := fun x => M.impl_copyItem (x.1, x.2.1, x.2.2)) h.1 (fun x hx' => implCopy_ok (h.2 x hx'))]
  · rfl
  · intro s i hi hi' hg
    have e1 : decide ((i : Int) < (l.length : Int)) = true := decide_eq_true (by omega)
    simp only [e1, cond_true, gidx_nat hi, gidx_nat hi', Option.bind_some, hg, w64_succ (i := i) (by have := h.1; omega), Int.toNat_natCast]
  · intro s; simp
/-! ## What is drawn -/
theorem NearI.le {x : Item} (h : NearI x) : x.2.1.length ≤ 1048576 := by have := h.2.1.1; omega
section
variable {code : List UInt8}
end
end Go.Vs

namespace Go.Vs

end Go.Vs

namespace Go.Vs

end Go.Vs

namespace Go.Vs

end Go.Vs

namespace Go.Vs

noncomputable def G.sift {α : Type} (cmp : α → α → Option Int) (data_0 : List α) (lo_1 : Int) (hi_2 : Int) (first_3 : Int) : Option ((List α)) :=
  Option.bind (loopM (fun (s2 : (List α) × (Int)) => (bif decide (hi_2 ≤ (w64 ((w64 (2 * s2.2)) + 1))) then
  some (.inr (.inl s2.1))
 else
  Option.bind ((bif decide ((w64 ((w64 ((w64 (2 * s2.2)) + 1)) + 1)) < hi_2) then
  (gidx s2.1 (w64 (first_3 + (w64 ((w64 (2 * s2.2)) + 1))))).bind fun x8 =>
  (gidx s2.1 (w64 ((w64 (first_3 + (w64 ((w64 (2 * s2.2)) + 1)))) + 1))).bind fun x15 =>
  (cmp x8 x15).bind fun r23 =>
  some (decide (r23 < 0))
 else
  some false)) fun o6 =>
  Option.bind ((bif o6 then
  some (w64 ((w64 ((w64 (2 * s2.2)) + 1)) + 1))
 else
  some (w64 ((w64 (2 * s2.2)) + 1)))) fun o29 =>
  (gidx s2.1 (w64 (first_3 + s2.2))).bind fun x32 =>
  (gidx s2.1 (w64 (first_3 + o29))).bind fun x39 =>
  (cmp x32 x39).bind fun r47 =>
  (bif !(decide (r47 < 0)) then
  some (.inr (.inr s2.1))
 else
  (gidx s2.1 (w64 (first_3 + o29))).bind fun x52 =>
  (gidx s2.1 (w64 (first_3 + s2.2))).bind fun x59 =>
  (gidx s2.1 (w64 (first_3 + s2.2))).bind fun x66 =>
  (gidx (s2.1.set (w64 (first_3 + s2.2)).toNat x52) (w64 (first_3 + o29))).bind fun x72 =>
  some (.inl (((s2.1.set (w64 (first_3 + s2.2)).toNat x52).set (w64 (first_3 + o29)).toNat x59), o29))))) (data_0, lo_1)) (selim (fun t78 => some t78)
   (fun t81 => some t81))

noncomputable def G.heap {α : Type} (cmp : α → α → Option Int) (data_0 : List α) (a_1 : Int) (b_2 : Int) : Option ((List α)) :=
  Option.bind (loopM (fun (s2 : (List α) × (Int)) => (bif decide (0 ≤ s2.2) then
  (G.sift cmp s2.1 s2.2 (w64 (b_2 - a_1)) a_1).bind fun r6 =>
  some (.inl (r6, w64 (s2.2 - 1)))
 else
  some (.inr s2.1))) (data_0, w64 ((w64 ((w64 (b_2 - a_1)) - 1)).tdiv 2))) fun o1 =>
  Option.bind (loopM (fun (s14 : (List α) × (Int)) => (bif decide (0 ≤ s14.2) then
  (gidx s14.1 (w64 (a_1 + s14.2))).bind fun x18 =>
  (gidx s14.1 a_1).bind fun x25 =>
  (gidx s14.1 a_1).bind fun x32 =>
  (gidx (s14.1.set a_1.toNat x18) (w64 (a_1 + s14.2))).bind fun x38 =>
  (G.sift cmp ((s14.1.set a_1.toNat x18).set (w64 (a_1 + s14.2)).toNat x25) 0 s14.2 a_1).bind fun r44 =>
  some (.inl (r44, w64 (s14.2 - 1)))
 else
  some (.inr s14.1))) (o1, w64 ((w64 (b_2 - a_1)) - 1))) fun o13 =>
  some o13

noncomputable def G.o2 {α : Type} (cmp : α → α → Option Int) (data_0 : List α) (a_1 : Int) (b_2 : Int) (swaps_3 : Int) : Option (Int × Int × Int) :=
  (gidx data_0 b_2).bind fun x1 =>
  (gidx data_0 a_1).bind fun x8 =>
  (cmp x1 x8).bind fun r16 =>
  (bif decide (r16 < 0) then
  some (b_2, a_1, w64 (swaps_3 + 1))
 else
  some (a_1, b_2, swaps_3))

noncomputable def G.peq {α : Type} (cmp : α → α → Option Int) (data_0 : List α) (a_1 : Int) (b_2 : Int) (pivot_3 : Int) : Option (Int × (List α)) :=
  (gidx data_0 pivot_3).bind fun x1 =>
  (gidx data_0 a_1).bind fun x8 =>
  (gidx data_0 a_1).bind fun x15 =>
  (gidx (data_0.set a_1.toNat x1) pivot_3).bind fun x21 =>
  Option.bind (loopM (fun (s28 : (List α) × (Int) × (Int)) => Option.bind (loopM (fun (s32 : (Int)) => Option.bind ((bif decide (s32 ≤ s28.2.2) then
  (gidx s28.1 a_1).bind fun x36 =>
  (gidx s28.1 s32).bind fun x43 =>
  (cmp x36 x43).bind fun r51 =>
  some (!(decide (r51 < 0)))
 else
  some false)) fun o34 =>
  (bif o34 then
  some (.inl (w64 (s32 + 1)))
 else
  some (.inr s32))) s28.2.1) fun o31 =>
  Option.bind (loopM (fun (s60 : (Int)) => Option.bind ((bif decide (o31 ≤ s60) then
  (gidx s28.1 a_1).bind fun x64 =>
  (gidx s28.1 s60).bind fun x71 =>
  (cmp x64 x71).bind fun r79 =>
  some (decide (r79 < 0))
 else
  some false)) fun o62 =>
  (bif o62 then
  some (.inl (w64 (s60 - 1)))
 else
  some (.inr s60))) s28.2.2) fun o59 =>
  (bif decide (o59 < o31) then
  some (.inr (s28.1, o31))
 else
  (gidx s28.1 o59).bind fun x88 =>
  (gidx s28.1 o31).bind fun x95 =>
  (gidx s28.1 o31).bind fun x102 =>
  (gidx (s28.1.set o31.toNat x88) o59).bind fun x108 =>
  some (.inl (((s28.1.set o31.toNat x88).set o59.toNat x95), w64 (o31 + 1), w64 (o59 - 1))))) (((data_0.set a_1.toNat x1).set pivot_3.toNat x8), w64 (a_1 + 1), w64 (b_2 - 1))) fun o27 =>
  some (o27.2, o27.1)

section
noncomputable abbrev cmpHits : Int × Int → Int × Int → Option Int := fun x y => M.impl_compareHits (x.1, x.2) (y.1, y.2)
end
end Go.Vs

namespace Go.Vs

section
variable {α : Type} [Inhabited α]
def el (d : List α) (i : Nat) : α := d.getD i default
theorem el_lt {d : List α} {i : Nat} (h : i < d.length) : el d i = d[i] := by simp [el, List.getD, h]
theorem gidx_el {d : List α} {i : Nat} (h : i < d.length) : gidx d (i : Int) = some (el d i) := by rw [gidx_nat h, el_lt h]
theorem el_set {d : List α} {i k : Nat} {x : α} (h : i < d.length) : el (d.set i x) k = if k = i then x else el d k := by
  unfold el
  simp only [List.getD_eq_getElem?_getD, List.getElem?_set]
  by_cases e : i = k
  · subst e; simp [h]
  · simp [e, Ne.symm e]
def swp (d : List α) (i j : Nat) : List α := (d.set i (el d j)).set j (el d i)
theorem swp_len {d : List α} {i j : Nat} : (swp d i j).length = d.length := by simp [swp]
theorem el_swp {d : List α} {i j k : Nat} (hi : i < d.length) (hj : j < d.length) : el (swp d i j) k = if k = j then el d i else if k = i then el d j else el d k := by
  unfold swp
  rw [el_set (by simpa using hj), el_set hi]
theorem swp_perm {d : List α} {i j : Nat} (hi : i < d.length) (hj : j < d.length) : (swp d i j).Perm d := by
  unfold swp
  rw [el_lt hi, el_lt hj]
  exact List.set_set_perm hi hj

structure PermR (a b : Nat) (d d' : List α) : Prop where
  len : d'.length = d.length
  out : ∀ i, i < a ∨ b ≤ i → el d' i = el d i
  perm : d'.Perm d
theorem PermR.refl {a b : Nat} (d : List α) : PermR a b d d := ⟨rfl, fun _ _ => rfl, List.Perm.refl _⟩
theorem PermR.trans {a b : Nat} {d d' d'' : List α} (h : PermR a b d d') (k : PermR a b d' d'') : PermR a b d d'' :=
  ⟨k.len.trans h.len, fun i hi => (k.out i hi).trans (h.out i hi), k.perm.trans h.perm⟩
theorem PermR.mono {a b a' b' : Nat} {d d' : List α} (h : PermR a b d d') (ha : a' ≤ a) (hb : b ≤ b') : PermR a' b' d d' :=
  ⟨h.len, fun i hi => h.out i (by omega), h.perm⟩
theorem PermR.swp {a b i j : Nat} {d : List α} (h1 : a ≤ i) (h2 : i < b) (h3 : a ≤ j) (h4 : j < b) (h5 : b ≤ d.length) : PermR a b d (swp d i j) :=
  ⟨swp_len, fun k hk => by rw [el_swp (by omega) (by omega), if_neg (by omega), if_neg (by omega)], swp_perm (by omega) (by omega)⟩
theorem PermR.mem {a b : Nat} {d d' : List α} (h : PermR a b d d') (hab : a ≤ b) (hb : b ≤ d.length) {i : Nat} (h1 : a ≤ i) (h2 : i < b) : ∃ j, a ≤ j ∧ j < b ∧ el d' i = el d j := by
  have cut : ∀ (e : List α), e.length = d.length → e = e.take a ++ ((e.take b).drop a ++ e.drop b) := by
    intro e he
    rw [← List.append_assoc]
    have : e.take a ++ (e.take b).drop a = e.take b := by
      have := List.take_append_drop a (e.take b)
      rwa [List.take_take, Nat.min_eq_left hab] at this
    rw [this, List.take_append_drop]
  have hl := h.len
  have e1 : d'.take a = d.take a := by
    apply List.ext_getElem
    · simp [hl]
    · intro k h3 h4
      simp only [List.length_take] at h3 h4
      rw [List.getElem_take, List.getElem_take, ← el_lt, ← el_lt]
      exact h.out k (by omega)
  have e2 : d'.drop b = d.drop b := by
    apply List.ext_getElem
    · simp [hl]
    · intro k h3 h4
      simp only [List.length_drop] at h3 h4
      rw [List.getElem_drop, List.getElem_drop, ← el_lt, ← el_lt]
      exact h.out (b + k) (by omega)
  have hp := h.perm
  rw [cut d' hl, cut d rfl, e1, e2] at hp
  have hp2 := (List.perm_append_right_iff _).1 ((List.perm_append_left_iff _).1 hp)
  have hm : el d' i ∈ (d'.take b).drop a := by
    rw [el_lt (by omega)]
    refine List.mem_iff_getElem.2 ⟨i - a, by simp; omega, ?_⟩
    simp only [List.getElem_drop, List.getElem_take]
    congr 1; omega
  have hm2 := hp2.mem_iff.1 hm
  obtain ⟨k, hk, e⟩ := List.mem_iff_getElem.1 hm2
  simp only [List.length_drop, List.length_take] at hk
  refine ⟨a + k, by omega, by omega, ?_⟩
  rw [← e, el_lt (by omega)]
  simp only [List.getElem_drop, List.getElem_take]
end

structure Lin {α : Type} (lt : α → α → Bool) (p : α → Prop) : Prop where
  irrefl : ∀ x, p x → lt x x = false
  trans : ∀ x y z, p x → p y → p z → lt x y = true → lt y z = true → lt x z = true
  total : ∀ x y, p x → p y → x ≠ y → lt x y = true ∨ lt y x = true
theorem Lin.asymm {α : Type} {lt : α → α → Bool} {p : α → Prop} (h : Lin lt p) {x y : α} (hx : p x) (hy : p y) (hl : lt x y = true) : lt y x = false := by
  cases e : lt y x with
  | false => rfl
  | true => have := h.trans x y x hx hy hx hl e; rw [h.irrefl x hx] at this; cases this
theorem Lin.ntrans {α : Type} {lt : α → α → Bool} {p : α → Prop} (h : Lin lt p) {x y z : α} (hx : p x) (hy : p y) (hz : p z) (h1 : lt x y = false) (h2 : lt y z = false) : lt x z = false := by
  cases e : lt x z with
  | false => rfl
  | true =>
    rcases Classical.em (x = y) with rfl | hne
    · rw [h2] at e; cases e
    · rcases h.total x y hx hy hne with h' | h'
      · rw [h1] at h'; cases h'
      · have := h.trans y x z hy hx hz h' e
        rw [h2] at this; cases this
def CmpOk {α : Type} (cmp : α → α → Option Int) (lt : α → α → Bool) (p : α → Prop) : Prop := ∀ x y, p x → p y → ∃ r, cmp x y = some r ∧ decide (r < 0) = lt x y

def AllP {α : Type} [Inhabited α] (p : α → Prop) (d : List α) : Prop := ∀ i, i < d.length → p (el d i)
theorem AllP.of {α : Type} [Inhabited α] {p : α → Prop} {d : List α} (h : ∀ x ∈ d, p x) : AllP p d := fun i hi => h _ (by rw [el_lt hi]; exact List.getElem_mem _)
theorem AllP.perm {α : Type} [Inhabited α] {p : α → Prop} {d d' : List α} (h : AllP p d) (hp : d'.Perm d) : AllP p d' := by
  refine AllP.of fun x hx => ?_
  obtain ⟨i, hi, e⟩ := List.mem_iff_getElem.1 (hp.mem_iff.1 hx)
  rw [← e, ← el_lt hi]; exact h i hi
def Asc {α : Type} [Inhabited α] (lt : α → α → Bool) (a b : Nat) (d : List α) : Prop := ∀ i j, a ≤ i → i < j → j < b → lt (el d j) (el d i) = false
end Go.Vs

namespace Go.Vs

theorem w64_pred {j : Nat} (h : 1 ≤ j) (h2 : j < 4000000000000000000) : w64 ((j : Int) - 1) = ((j - 1 : Nat) : Int) := by rw [w64_id (by omega) (by omega)]; omega

section
variable {α : Type} {cmp : α → α → Option Int} {lt : α → α → Bool} {p : α → Prop}
theorem cmp_of (hc : CmpOk cmp lt p) {x y : α} (hx : p x) (hy : p y) : (cmp x y).bind (fun r => some (decide (r < 0))) = some (lt x y) := by
  obtain ⟨r, h1, h2⟩ := hc x y hx hy
  rw [h1, Option.bind_some, h2]
end

section
variable {α : Type} [Inhabited α] {cmp : α → α → Option Int} {lt : α → α → Bool} {p : α → Prop}
theorem gidx_set {d : List α} {i j : Nat} {x : α} (hj : j < d.length) : gidx (d.set i x) (j : Int) = some (el (d.set i x) j) := gidx_el (by simpa using hj)
theorem swp_def (d : List α) (i j : Nat) : (d.set i (el d j)).set j (el d i) = swp d i j := rfl
theorem ins_inner (hc : CmpOk cmp lt p) (hl : Lin lt p) {a i : Nat} {d0 : List α} (hi : i < d0.length) (hn : d0.length < 1000000000) (hp : AllP p d0) : ∀ (d : List α) (j : Nat), a ≤ j → j ≤ i → PermR a (i + 1) d0 d →
    (∀ x y, a ≤ x → x < y → y ≤ i → x ≠ j → y ≠ j → lt (el d y) (el d x) = false) → (∀ y, j < y → y ≤ i → lt (el d y) (el d j) = false) →
    ∃ d', loopM (fun (s7 : (List α) × (Int)) => Option.bind ((bif decide ((a : Int) < s7.2) then
  (gidx s7.1 s7.2).bind fun x12 =>
  (gidx s7.1 (w64 (s7.2 - 1))).bind fun x19 =>
  (cmp x12 x19).bind fun r27 =>
  some (decide (r27 < 0))
 else
  some false)) fun o10 =>
  (bif o10 then
  (gidx s7.1 (w64 (s7.2 - 1))).bind fun x34 =>
  (gidx s7.1 s7.2).bind fun x41 =>
  (gidx s7.1 s7.2).bind fun x48 =>
  (gidx (s7.1.set s7.2.toNat x34) (w64 (s7.2 - 1))).bind fun x54 =>
  some (.inl (((s7.1.set s7.2.toNat x34).set (w64 (s7.2 - 1)).toNat x41), w64 (s7.2 - 1)))
 else
  some (.inr s7.1))) (d, (j : Int)) = some d' ∧ PermR a (i + 1) d0 d' ∧ Asc lt a (i + 1) d' := by
  intro d j
  induction j generalizing d with
  | zero =>
    intro ha _ hP h1 h2
    have e1 : decide ((a : Int) < ((0 : Nat) : Int)) = false := decide_eq_false (by omega)
    rw [loopM_eq]
    simp only [e1, cond_false, Option.bind_some, selim]
    refine ⟨d, rfl, hP, fun x y hx hxy hy => ?_⟩
    by_cases hx0 : x = 0
    · subst hx0; exact h2 y hxy (by omega)
    · exact h1 x y hx hxy (by omega) hx0 (by omega)
  | succ j ih =>
    intro ha hji hP h1 h2
    have hlen := hP.len
    have hpd := hp.perm hP.perm
    have ej : w64 (((j + 1 : Nat) : Int) - 1) = (j : Int) := w64_pred (by omega) (by omega)
    rw [loopM_eq]
    by_cases haj : a < j + 1
    · have e1 : decide ((a : Int) < ((j + 1 : Nat) : Int)) = true := decide_eq_true (by omega)
      simp only [e1, cond_true, ej, gidx_el (d := d) (i := j + 1) (by omega), gidx_el (d := d) (i := j) (by omega), Option.bind_some, cmp_of hc (hpd (j + 1) (by omega)) (hpd j (by omega))]
      cases hlt : lt (el d (j + 1)) (el d j) with
      | true =>
        simp only [cond_true, gidx_set (d := d) (i := j + 1) (j := j) (x := el d j) (by omega), Option.bind_some, Int.toNat_natCast, swp_def, selim]
        have sw : ∀ k, el (swp d (j + 1) j) k = if k = j then el d (j + 1) else if k = j + 1 then el d j else el d k := fun k => el_swp (by omega) (by omega)
        refine ih (swp d (j + 1) j) (by omega) (by omega) (hP.trans (PermR.swp (by omega) (by omega) (by omega) (by omega) (by omega))) ?_ ?_
        · intro x y hx hxy hy hxj hyj
          rw [sw, sw, if_neg hyj, if_neg hxj]
          by_cases hyj1 : y = j + 1
          · subst hyj1
            rw [if_pos rfl, if_neg (by omega)]
            exact h1 x j hx (by omega) (by omega) (by omega) (by omega)
          · rw [if_neg hyj1]
            by_cases hxj1 : x = j + 1
            · subst hxj1
              rw [if_pos rfl]
              exact h1 j y (by omega) (by omega) hy (by omega) hyj1
            · rw [if_neg hxj1]
              exact h1 x y hx hxy hy hxj1 hyj1
        · intro y hy hyi
          rw [sw, sw, if_neg (by omega), if_pos rfl]
          by_cases hyj1 : y = j + 1
          · subst hyj1
            rw [if_pos rfl]
            exact hl.asymm (hpd _ (by omega)) (hpd _ (by omega)) hlt
          · rw [if_neg hyj1]
            exact h2 y (by omega) hyi
      | false =>
        simp only [cond_false, selim]
        refine ⟨d, rfl, hP, fun x y hx hxy hy => ?_⟩
        by_cases hxj : x = j + 1
        · subst hxj; exact h2 y hxy (by omega)
        · by_cases hyj : y = j + 1
          · subst hyj
            by_cases hxj2 : x = j
            · subst hxj2; exact hlt
            · exact hl.ntrans (hpd _ (by omega)) (hpd j (by omega)) (hpd _ (by omega)) hlt (h1 x j hx (by omega) (by omega) hxj (by omega))
          · exact h1 x y hx hxy (by omega) hxj hyj
    · have e1 : decide ((a : Int) < ((j + 1 : Nat) : Int)) = false := decide_eq_false (by omega)
      have : a = j + 1 := by omega
      simp only [e1, cond_false, Option.bind_some, selim]
      refine ⟨d, rfl, hP, fun x y hx hxy hy => ?_⟩
      by_cases hx0 : x = j + 1
      · subst hx0; exact h2 y hxy (by omega)
      · exact h1 x y hx hxy (by omega) hx0 (by omega)
end
end Go.Vs

namespace Go.Vs

section
variable {α : Type} [Inhabited α] {cmp : α → α → Option Int} {lt : α → α → Bool} {p : α → Prop}
end
end Go.Vs

namespace Go.Vs

theorem loop_ex {S R U : Type} {f : S → Option (S ⊕ R)} (J : S → Prop) (μ : S → Nat) (Z : R → Prop) (step : ∀ s, J s → (∃ s', f s = some (.inl s') ∧ J s' ∧ μ s' < μ s) ∨ ∃ r, f s = some (.inr r) ∧ Z r) {s : S} (hs : J s) {c : R → Option U} {P : U → Prop}
    (hk : ∀ r, Z r → ∃ u, c r = some u ∧ P u) : ∃ u, (loopM f s).bind c = some u ∧ P u := by
  obtain ⟨r, h1, h2⟩ := loopM_ind J μ Z step s hs
  obtain ⟨u, h3, h4⟩ := hk r h2
  exact ⟨u, by rw [h1]; exact h3, h4⟩

section
variable {α : Type} [Inhabited α] {cmp : α → α → Option Int} {lt : α → α → Bool} {p : α → Prop}

structure Parted (lt : α → α → Bool) (a b : Nat) (d : List α) (m : Nat) (d' : List α) : Prop where
  ge : a ≤ m
  le : m < b
  perm : PermR a b d d'
  low : ∀ i, a ≤ i → i < m → lt (el d' i) (el d' m) = true
  high : ∀ i, m < i → i < b → lt (el d' i) (el d' m) = false
end
end Go.Vs

namespace Go.Vs

section
variable {α : Type} [Inhabited α] {cmp : α → α → Option Int} {lt : α → α → Bool} {p : α → Prop}

def NIn (lt : α → α → Bool) (a0 b0 a b : Nat) (d : List α) : Prop := ∀ i j, a0 ≤ i → i < j → j < b0 → ¬ (a ≤ i ∧ j < b) → lt (el d j) (el d i) = false
theorem NIn.perm {a0 b0 a b : Nat} {d d' : List α} (h : NIn lt a0 b0 a b d) (hP : PermR a b d d') (ha : a0 ≤ a) (hab : a ≤ b) (hb : b ≤ b0) (hb0 : b0 ≤ d.length) : NIn lt a0 b0 a b d' := by
  intro i j h1 h2 h3 h4
  have cl : ∀ k, ∃ k', el d' k = el d k' ∧ ((a ≤ k ∧ k < b) → a ≤ k' ∧ k' < b) ∧ (¬ (a ≤ k ∧ k < b) → k' = k) := by
    intro k
    by_cases hk : a ≤ k ∧ k < b
    · obtain ⟨k', g1, g2, g3⟩ := hP.mem hab (by omega) hk.1 hk.2
      exact ⟨k', g3, fun _ => ⟨g1, g2⟩, fun h => absurd hk h⟩
    · exact ⟨k, hP.out k (by omega), fun h => absurd h hk, fun _ => rfl⟩
  obtain ⟨i', e1, q1, q2⟩ := cl i
  obtain ⟨j', e2, q3, q4⟩ := cl j
  rw [e1, e2]
  by_cases hi : a ≤ i ∧ i < b
  · have := q1 hi
    by_cases hj : a ≤ j ∧ j < b
    · exact absurd ⟨hi.1, hj.2⟩ h4
    · have := q4 hj; subst this; exact h i' j' (by omega) (by omega) h3 (by omega)
  · have := q2 hi; subst this
    by_cases hj : a ≤ j ∧ j < b
    · have := q3 hj; exact h i' j' h1 (by omega) (by omega) (by omega)
    · have := q4 hj; subst this; exact h i' j' h1 h2 h3 (by omega)
theorem NIn.done {a0 b0 a b : Nat} {d : List α} (h : NIn lt a0 b0 a b d) (hA : Asc lt a b d) : Asc lt a0 b0 d := by
  intro i j h1 h2 h3
  by_cases hc : a ≤ i ∧ j < b
  · exact hA i j hc.1 h2 hc.2
  · exact h i j h1 h2 h3 hc
end
end Go.Vs

namespace Go.Vs

abbrev Hit := Int × Int
def ltH (x y : Hit) : Bool := decide (x.2 < y.2 ∨ x.2 = y.2 ∧ x.1 < y.1)
theorem ltH_iff {x y : Hit} : ltH x y = true ↔ x.2 < y.2 ∨ x.2 = y.2 ∧ x.1 < y.1 := by simp [ltH]
theorem ltH_false {x y : Hit} : ltH x y = false ↔ ¬ (x.2 < y.2 ∨ x.2 = y.2 ∧ x.1 < y.1) := by simp [ltH]
theorem linH : Lin ltH (fun _ => True) where
  irrefl x _ := by rw [ltH_false]; omega
  trans x y z _ _ _ h1 h2 := by rw [ltH_iff] at *; omega
  total x y _ _ h := by
    rw [ltH_iff, ltH_iff]
    by_cases e : x.2 = y.2
    · have : x.1 ≠ y.1 := fun e2 => h (Prod.ext e2 e)
      omega
    · omega
theorem cmpOr_ok (a b : Int) : M.cmp_Or_int [a, b] = some (if a = 0 then b else a) := by
  unfold M.cmp_Or_int
  by_cases ha : a = 0
  · subst ha
    by_cases hb : b = 0
    · subst hb
      rw [loopM_eq]
      have e0 : decide ((0 : Int) < (([0, 0] : List Int).length : Int)) = true := rfl
      have g0 : gidx ([0, 0] : List Int) 0 = some 0 := rfl
      have w0 : w64 ((0 : Int) + 1) = 1 := rfl
      have e1 : decide ((1 : Int) < (([0, 0] : List Int).length : Int)) = true := rfl
      have g1 : gidx ([0, 0] : List Int) 1 = some 0 := rfl
      have w1 : w64 ((1 : Int) + 1) = 2 := rfl
      have e2 : decide ((2 : Int) < (([0, 0] : List Int).length : Int)) = false := rfl
      simp only [e0, cond_true, g0, Option.bind_some, bne_self_eq_false, cond_false, w0, selim]
      rw [loopM_eq]
      simp only [e1, cond_true, g1, Option.bind_some, bne_self_eq_false, cond_false, w1, selim]
      rw [loopM_eq]
      simp only [e2, cond_false, Option.bind_some, selim, if_true]
    · rw [loopM_eq]
      have e0 : decide ((0 : Int) < (([0, b] : List Int).length : Int)) = true := rfl
      have g0 : gidx ([0, b] : List Int) 0 = some 0 := rfl
      have w0 : w64 ((0 : Int) + 1) = 1 := rfl
      have e1 : decide ((1 : Int) < (([0, b] : List Int).length : Int)) = true := rfl
      have g1 : gidx ([0, b] : List Int) 1 = some b := rfl
      simp only [e0, cond_true, g0, Option.bind_some, bne_self_eq_false, cond_false, w0, selim]
      rw [loopM_eq]
      have hb' : (b != 0) = true := by simpa using hb
      simp only [e1, cond_true, g1, Option.bind_some, hb', selim, if_true]
  · rw [loopM_eq]
    have e0 : decide ((0 : Int) < (([a, b] : List Int).length : Int)) = true := rfl
    have g0 : gidx ([a, b] : List Int) 0 = some a := rfl
    have ha' : (a != 0) = true := by simpa using ha
    simp only [e0, cond_true, g0, Option.bind_some, ha', selim, if_neg ha]
theorem compareHits_ok (x y : Hit) : ∃ r, M.impl_compareHits (x.1, x.2) (y.1, y.2) = some r ∧ decide (r < 0) = ltH x y ∧ decide (0 < r) = ltH y x := by
  unfold M.impl_compareHits
  simp only [compare_ok, Option.bind_some, cmpOr_ok]
  refine ⟨_, rfl, ?_, ?_⟩
  · unfold ltH
    apply decide_eq_decide.2
    by_cases h : cmpI x.2 y.2 = 0
    · rw [if_pos h, cmpI_neg]; rw [cmpI_zero] at h; omega
    · rw [if_neg h, cmpI_neg]; rw [cmpI_zero] at h; omega
  · unfold ltH
    apply decide_eq_decide.2
    by_cases h : cmpI x.2 y.2 = 0
    · rw [if_pos h, cmpI_pos]; rw [cmpI_zero] at h; omega
    · rw [if_neg h, cmpI_pos]; rw [cmpI_zero] at h; omega
theorem cmpHits_ok : CmpOk cmpHits ltH (fun _ => True) := fun x y _ _ => by
  obtain ⟨r, h1, h2, _⟩ := compareHits_ok x y
  exact ⟨r, h1, h2⟩
theorem less_ok {h : List Hit} {i j : Nat} (hi : i < h.length) (hj : j < h.length) : M.impl_hitHeap_Less h (i : Int) (j : Int) = some (ltH (el h j) (el h i)) := by
  unfold M.impl_hitHeap_Less
  obtain ⟨r, h1, _, h3⟩ := compareHits_ok (el h i) (el h j)
  simp only [gidx_el hi, gidx_el hj, Option.bind_some, h1, h3]
theorem swap_ok {h : List Hit} {i j : Nat} (hi : i < h.length) (hj : j < h.length) : M.impl_hitHeap_Swap h (i : Int) (j : Int) = some (swp h i j) := by
  unfold M.impl_hitHeap_Swap
  simp only [gidx_el hi, gidx_el hj, Option.bind_some, Int.toNat_natCast, gidx_set (d := h) (i := i) (j := j) hj]
  rfl

def HP (n : Nat) (h : List Hit) : Prop := ∀ i, 0 < i → i < n → ltH (el h ((i - 1) / 2)) (el h i) = false
theorem heapUp_ok {h0 : List Hit} (hn : h0.length < 1000000000) : ∀ (m : Nat) (h : List Hit) (j : Nat), j = m → j < h0.length → PermR 0 h0.length h0 h →
    (∀ i, 0 < i → i < h0.length → i ≠ j → ltH (el h ((i - 1) / 2)) (el h i) = false) → (∀ i, 0 < i → i < h0.length → 0 < j → (i - 1) / 2 = j → ltH (el h ((j - 1) / 2)) (el h i) = false) →
    ∃ h', M.container_heap_up__impl_hitHeap h (j : Int) = some h' ∧ PermR 0 h0.length h0 h' ∧ HP h0.length h' := by
  intro m
  induction m using Nat.strongRecOn with
  | _ m ih =>
    intro h j hjm hj hP h1 h2
    have hlen := hP.len
    by_cases hj0 : j = 0
    · subst hj0
      unfold M.container_heap_up__impl_hitHeap
      rw [loopM_eq]
      have e : (w64 ((w64 (((0 : Nat) : Int) - 1)).tdiv 2) == ((0 : Nat) : Int)) = true := rfl
      simp only [e, cond_true, Option.bind_some, selim]
      exact ⟨h, rfl, hP, fun i hi1 hi2 => h1 i hi1 hi2 (by omega)⟩
    · have ep : w64 ((w64 ((j : Int) - 1)).tdiv 2) = (((j - 1) / 2 : Nat) : Int) := by
        rw [w64_pred (by omega) (by omega), Int.tdiv_eq_ediv_of_nonneg (by omega), w64_id (by omega) (by omega)]; omega
      have ene : ((((j - 1) / 2 : Nat) : Int) == (j : Int)) = false := beq_eq_false_iff_ne.2 (by omega)
      have hlp : (j - 1) / 2 < h.length := by omega
      cases hlt : ltH (el h ((j - 1) / 2)) (el h j) with
      | false =>
        unfold M.container_heap_up__impl_hitHeap
        rw [loopM_eq]
        simp only [ep, ene, cond_false, less_ok (h := h) (i := j) (j := (j - 1) / 2) (by omega) hlp, Option.bind_some, hlt, Bool.not_false, cond_true, selim]
        refine ⟨h, rfl, hP, fun i hi1 hi2 => ?_⟩
        by_cases hij : i = j
        · subst hij; exact hlt
        · exact h1 i hi1 hi2 hij
      | true =>
        have sw : ∀ k, el (swp h ((j - 1) / 2) j) k = if k = j then el h ((j - 1) / 2) else if k = (j - 1) / 2 then el h j else el h k := fun k => el_swp hlp (by omega)
        have hstep : M.container_heap_up__impl_hitHeap h (j : Int) = M.container_heap_up__impl_hitHeap (swp h ((j - 1) / 2) j) (((j - 1) / 2 : Nat) : Int) := by
          conv => lhs; unfold M.container_heap_up__impl_hitHeap
          rw [loopM_eq]
          simp only [ep, ene, cond_false, less_ok (h := h) (i := j) (j := (j - 1) / 2) (by omega) hlp, Option.bind_some, hlt, Bool.not_true, cond_false, swap_ok (h := h) (i := (j - 1) / 2) (j := j) hlp (by omega), selim]
          rfl
        rw [hstep]
        have asy := linH.asymm trivial trivial hlt
        refine ih ((j - 1) / 2) (by omega) _ _ rfl (by omega) (hP.trans (PermR.swp (by omega) (by omega) (by omega) (by omega) (by omega))) ?_ ?_
        · intro i hi1 hi2 hip
          rw [sw, sw]
          by_cases hij : i = j
          · subst hij
            rw [if_pos rfl, if_neg (by omega), if_pos rfl]
            exact asy
          · rw [if_neg hij, if_neg hip]
            by_cases hpj : (i - 1) / 2 = j
            · rw [if_pos hpj]
              exact h2 i hi1 hi2 (by omega) hpj
            · rw [if_neg hpj]
              by_cases hpp : (i - 1) / 2 = (j - 1) / 2
              · rw [if_pos hpp]
                have := h1 i hi1 hi2 hij
                rw [hpp] at this
                exact linH.ntrans trivial trivial trivial asy this
              · rw [if_neg hpp]; exact h1 i hi1 hi2 hij
        · intro i hi1 hi2 hp0 hpi
          have hpar := h1 ((j - 1) / 2) hp0 (by omega) (by omega)
          rw [sw, sw, if_neg (by omega), if_neg (by omega)]
          by_cases hij : i = j
          · subst hij; rw [if_pos rfl]; exact hpar
          · rw [if_neg hij, if_neg (by omega)]
            have := h1 i hi1 hi2 hij
            rw [hpi] at this
            exact linH.ntrans trivial trivial trivial hpar this
theorem push_ok {h : List Hit} (hn : h.length < 1000000) (hh : HP h.length h) (x : Hit) : ∃ h', M.container_heap_Push__impl_hitHeap__impl_Hit h (x.1, x.2) = some h' ∧ h'.Perm (x :: h) ∧ HP h'.length h' := by
  unfold M.container_heap_Push__impl_hitHeap__impl_Hit M.impl_hitHeap_Push__impl_Hit M.impl_hitHeap_Len
  rw [gapp_ok (by simp; omega)]
  have hl : (h ++ [(x.1, x.2)]).length = h.length + 1 := by simp
  have e : w64 (((h ++ [(x.1, x.2)]).length : Int) - 1) = (h.length : Int) := by rw [hl, w64_id (by omega) (by omega)]; omega
  simp only [Option.bind_some, e]
  have ea : ∀ k, k < h.length → el (h ++ [(x.1, x.2)]) k = el h k := fun k hk => by
    rw [el_lt (by omega), el_lt hk, List.getElem_append_left hk]
  obtain ⟨h', h1, h2, h3⟩ := heapUp_ok (h0 := h ++ [(x.1, x.2)]) (by omega) h.length _ h.length rfl (by omega) (PermR.refl _)
    (fun i hi1 hi2 hne => by rw [ea _ (by omega), ea _ (by omega)]; exact hh i hi1 (by omega)) (fun i hi1 hi2 _ hpi => by omega)
  rw [h1]
  refine ⟨h', rfl, h2.perm.trans ?_, by rw [h2.len]; exact h3⟩
  exact List.perm_append_comm (l₁ := h) (l₂ := [x])
theorem HP.top {n : Nat} {h : List Hit} (hh : HP n h) : ∀ i, i < n → ltH (el h 0) (el h i) = false := by
  intro i
  induction i using Nat.strongRecOn with
  | _ i ih =>
    intro hi
    by_cases h0 : i = 0
    · subst h0; exact linH.irrefl _ trivial
    · exact linH.ntrans trivial trivial trivial (ih ((i - 1) / 2) (by omega) (by omega)) (hh i (by omega) hi)
theorem heapDown_ok {h0 : List Hit} {n : Nat} (hn : h0.length < 1000000) (hnl : n ≤ h0.length) : ∃ r, M.container_heap_down__impl_hitHeap h0 0 (n : Int) = some r ∧
    ((∀ k, 0 < k → k < n → (k - 1) / 2 ≠ 0 → ltH (el h0 ((k - 1) / 2)) (el h0 k) = false) → PermR 0 n h0 r.2 ∧ HP n r.2) := by
  unfold M.container_heap_down__impl_hitHeap
  refine loop_ex (fun s => ∃ (h : List Hit) (i : Nat), s = (h, (i : Int)) ∧ i ≤ h0.length ∧ h.length = h0.length ∧ ((∀ k, 0 < k → k < n → (k - 1) / 2 ≠ 0 → ltH (el h0 ((k - 1) / 2)) (el h0 k) = false) → PermR 0 n h0 h ∧
      (∀ k, 0 < k → k < n → (k - 1) / 2 ≠ i → ltH (el h ((k - 1) / 2)) (el h k) = false) ∧ (∀ k, 0 < k → k < n → 0 < i → (k - 1) / 2 = i → ltH (el h ((i - 1) / 2)) (el h k) = false))) (fun s => ((h0.length : Int) - s.2).toNat)
    (fun r => (∀ k, 0 < k → k < n → (k - 1) / 2 ≠ 0 → ltH (el h0 ((k - 1) / 2)) (el h0 k) = false) → PermR 0 n h0 r.1 ∧ HP n r.1) ?_
    ⟨h0, 0, rfl, by omega, rfl, fun hh => ⟨PermR.refl _, fun k h1 h2 h3 => hh k h1 h2 h3, fun k _ _ h => absurd h (Nat.lt_irrefl _)⟩⟩ (fun r hr => ⟨_, rfl, hr⟩)
  rintro _ ⟨h, i, rfl, hi, hlen, hJ⟩
  have e1 : w64 ((w64 (2 * (i : Int))) + 1) = ((2 * i + 1 : Nat) : Int) := by rw [w64_id (n := 2 * (i : Int)) (by omega) (by omega), w64_id (by omega) (by omega)]; omega
  have e2 : w64 (((2 * i + 1 : Nat) : Int) + 1) = ((2 * i + 2 : Nat) : Int) := by rw [w64_id (by omega) (by omega)]; omega
  simp only [e1, e2]
  by_cases hc : n ≤ 2 * i + 1
  · right
    have e3 : decide ((n : Int) ≤ ((2 * i + 1 : Nat) : Int)) = true := decide_eq_true (by omega)
    refine ⟨(h, (i : Int)), by simp only [e3, cond_true, Option.bind_some], fun hh => ?_⟩
    obtain ⟨j1, j2, j3⟩ := hJ hh
    exact ⟨j1, fun k k1 k2 => j2 k k1 k2 (by omega)⟩
  · have e3 : decide ((n : Int) ≤ ((2 * i + 1 : Nat) : Int)) = false := decide_eq_false (by omega)
    have e4 : decide (((2 * i + 1 : Nat) : Int) < 0) = false := decide_eq_false (by omega)
    -- the greater child
    obtain ⟨j, hj1, hj2, hj3, hj4⟩ : ∃ j : Nat, (Option.bind ((bif decide (((2 * i + 2 : Nat) : Int) < (n : Int)) then (M.impl_hitHeap_Less h ((2 * i + 2 : Nat) : Int) ((2 * i + 1 : Nat) : Int)).bind fun r12 => some r12 else some false)) fun o10 => (bif o10 then some ((2 * i + 2 : Nat) : Int) else some ((2 * i + 1 : Nat) : Int))) = some (j : Int) ∧ (j - 1) / 2 = i ∧ (0 < j ∧ j < n) ∧ (∀ k, 0 < k → k < n → (k - 1) / 2 = i → ltH (el h j) (el h k) = false) := by
      by_cases hc2 : 2 * i + 2 < n
      · have e5 : decide (((2 * i + 2 : Nat) : Int) < (n : Int)) = true := decide_eq_true (by omega)
        simp only [e5, cond_true, less_ok (h := h) (i := 2 * i + 2) (j := 2 * i + 1) (by omega) (by omega), Option.bind_some]
        cases hlt : ltH (el h (2 * i + 1)) (el h (2 * i + 2)) with
        | true =>
          refine ⟨2 * i + 2, rfl, by omega, by omega, fun k k1 k2 k3 => ?_⟩
          rcases (show k = 2 * i + 1 ∨ k = 2 * i + 2 by omega) with rfl | rfl
          · exact linH.asymm trivial trivial hlt
          · exact linH.irrefl _ trivial
        | false =>
          refine ⟨2 * i + 1, rfl, by omega, by omega, fun k k1 k2 k3 => ?_⟩
          rcases (show k = 2 * i + 1 ∨ k = 2 * i + 2 by omega) with rfl | rfl
          · exact linH.irrefl _ trivial
          · exact hlt
      · have e5 : decide (((2 * i + 2 : Nat) : Int) < (n : Int)) = false := decide_eq_false (by omega)
        simp only [e5, cond_false, Option.bind_some]
        refine ⟨2 * i + 1, rfl, by omega, by omega, fun k k1 k2 k3 => ?_⟩
        have : k = 2 * i + 1 := by omega
        subst this; exact linH.irrefl _ trivial
    have hrw : ∀ {β : Type} (g : Int → Option β), (Option.bind ((bif decide (((2 * i + 2 : Nat) : Int) < (n : Int)) then (M.impl_hitHeap_Less h ((2 * i + 2 : Nat) : Int) ((2 * i + 1 : Nat) : Int)).bind fun r12 => some r12 else some false)) fun o10 => Option.bind (bif o10 then some ((2 * i + 2 : Nat) : Int) else some ((2 * i + 1 : Nat) : Int)) g) = g (j : Int) := by
      intro β g
      rw [← Option.bind_assoc, hj1]; rfl
    simp only [e3, cond_false, e4, Option.bind_some]
    rw [hrw]
    simp only [less_ok (h := h) (i := j) (j := i) (by omega) (by omega), Option.bind_some]
    cases hlt : ltH (el h i) (el h j) with
    | false =>
      right
      refine ⟨(h, (i : Int)), by simp only [Bool.not_false, cond_true], fun hh => ?_⟩
      obtain ⟨j1, j2, j3⟩ := hJ hh
      refine ⟨j1, fun k k1 k2 => ?_⟩
      by_cases hk : (k - 1) / 2 = i
      · rw [hk]; exact linH.ntrans trivial trivial trivial hlt (hj4 k k1 k2 hk)
      · exact j2 k k1 k2 hk
    | true =>
      left
      have sw : ∀ k, el (swp h i j) k = if k = j then el h i else if k = i then el h j else el h k := fun k => el_swp (by omega) (by omega)
      refine ⟨(swp h i j, (j : Int)), by simp only [Bool.not_true, cond_false, swap_ok (h := h) (i := i) (j := j) (by omega) (by omega), Option.bind_some], ⟨swp h i j, j, rfl, by omega, by rw [swp_len]; exact hlen, fun hh => ?_⟩, by simp only; omega⟩
      obtain ⟨j1, j2, j3⟩ := hJ hh
      have asy := linH.asymm trivial trivial hlt
      refine ⟨j1.trans (PermR.swp (by omega) (by omega) (by omega) (by omega) (by omega)), fun k k1 k2 k3 => ?_, fun k k1 k2 k3 k4 => ?_⟩
      · rw [sw, sw, if_neg k3]
        by_cases hkj : k = j
        · subst hkj
          rw [if_pos rfl, if_pos hj2]; exact asy
        · rw [if_neg hkj]
          by_cases hki : k = i
          · subst hki
            rw [if_pos rfl, if_neg (by omega)]
            exact j3 j (by omega) (by omega) (by omega) hj2
          · rw [if_neg hki]
            by_cases hp : (k - 1) / 2 = i
            · rw [if_pos hp]; exact hj4 k k1 k2 hp
            · rw [if_neg hp]; exact j2 k k1 k2 hp
      · rw [sw, sw, if_neg (by omega), if_pos hj2, if_neg (by omega), if_neg (by omega)]
        have := j2 k k1 k2 (by omega)
        rw [k4] at this; exact this
end Go.Vs

namespace Go.Vs

def insH (x : Hit) : List Hit → List Hit
  | [] => [x]
  | y :: r => if ltH x y then x :: y :: r else y :: insH x r
def AscH (l : List Hit) : Prop := l.Pairwise fun x y => ltH y x = false
theorem insH_perm (x : Hit) (l : List Hit) : (insH x l).Perm (x :: l) := by
  induction l with
  | nil => exact List.Perm.refl _
  | cons y r ih =>
    unfold insH
    split
    · exact List.Perm.refl _
    · exact (List.Perm.cons y ih).trans (List.Perm.swap x y r)
theorem insH_asc {x : Hit} {l : List Hit} (h : AscH l) : AscH (insH x l) := by
  induction l with
  | nil => exact List.pairwise_singleton _ _
  | cons y r ih =>
    obtain ⟨h1, h2⟩ := List.pairwise_cons.1 h
    unfold insH
    split
    · rename_i hlt
      refine List.pairwise_cons.2 ⟨fun z hz => ?_, h⟩
      rcases List.mem_cons.1 hz with rfl | hz
      · exact linH.asymm trivial trivial hlt
      · exact linH.ntrans trivial trivial trivial (h1 z hz) (linH.asymm trivial trivial hlt)
    · rename_i hlt
      refine List.pairwise_cons.2 ⟨fun z hz => ?_, ih h2⟩
      rcases List.mem_cons.1 ((insH_perm x r).mem_iff.1 hz) with rfl | hz
      · simpa using hlt
      · exact h1 z hz
theorem ltH_antisymm {x y : Hit} (h1 : ltH x y = false) (h2 : ltH y x = false) : x = y := by
  rcases Classical.em (x = y) with h | h
  · exact h
  · rcases linH.total x y trivial trivial h with h' | h'
    · rw [h1] at h'; cases h'
    · rw [h2] at h'; cases h'
theorem asc_uniq {l m : List Hit} (hl : AscH l) (hm : AscH m) (h : l.Perm m) : l = m :=
  List.Perm.eq_of_pairwise (le := fun x y => ltH y x = false) (fun _ _ _ _ h1 h2 => ltH_antisymm h2 h1) hl hm h
theorem insH_len (x : Hit) (l : List Hit) : (insH x l).length = l.length + 1 := by rw [(insH_perm x l).length_eq]; rfl
theorem insH_take (x : Hit) : ∀ (k : Nat) (l : List Hit), (insH x (l.take k)).take k = (insH x l).take k
  | 0, l => by simp
  | k + 1, [] => by simp
  | k + 1, y :: r => by
    rw [List.take_succ_cons]
    unfold insH
    split
    · rw [List.take_succ_cons, List.take_succ_cons]
      cases k with
      | zero => simp
      | succ k => simp [List.take_take]
    · rw [List.take_succ_cons, List.take_succ_cons, insH_take x k r]
def isort (l : List Hit) : List Hit := l.foldl (fun S x => insH x S) []
theorem isort_spec (l : List Hit) : AscH (isort l) ∧ (isort l).Perm l := by
  have key : ∀ (l S : List Hit), AscH S → AscH (l.foldl (fun S x => insH x S) S) ∧ (l.foldl (fun S x => insH x S) S).Perm (S ++ l) := by
    intro l
    induction l with
    | nil => intro S h; exact ⟨h, by simp⟩
    | cons x r ih =>
      intro S h
      obtain ⟨h1, h2⟩ := ih (insH x S) (insH_asc h)
      refine ⟨h1, h2.trans ?_⟩
      have := List.Perm.append_right r (insH_perm x S)
      exact this.trans (List.perm_middle.symm)
  exact key l [] List.Pairwise.nil
theorem isort_snoc (l : List Hit) (x : Hit) : isort (l ++ [x]) = insH x (isort l) := by simp [isort]
theorem isort_len (l : List Hit) : (isort l).length = l.length := (isort_spec l).2.length_eq
theorem isort_uniq {l m : List Hit} (hm : AscH m) (h : m.Perm l) : isort l = m := asc_uniq (isort_spec l).1 hm ((isort_spec l).2.trans h.symm)
def topH (k : Nat) (l : List Hit) : List Hit := (isort l).take k
theorem topH_snoc (k : Nat) (l : List Hit) (x : Hit) : topH k (l ++ [x]) = (insH x (topH k l)).take k := by
  unfold topH; rw [isort_snoc, insH_take]
theorem topH_asc (k : Nat) (l : List Hit) : AscH (topH k l) := (isort_spec l).1.sublist (List.take_sublist _ _)
theorem topH_len (k : Nat) (l : List Hit) : (topH k l).length = min k l.length := by simp [topH, isort_len]
theorem topH_sub (k : Nat) (l : List Hit) : ∀ x ∈ topH k l, x ∈ l := fun x hx => (isort_spec l).2.mem_iff.1 (List.mem_of_mem_take hx)

/-! ## What the heap keeps -/
theorem pop_ok {h : List Hit} (hn : h.length < 1000000) (h1 : 0 < h.length) (hh : HP h.length h) : ∃ x h', M.container_heap_Pop__impl_hitHeap h = some (x, h') ∧ (h' ++ [x]).Perm h ∧ HP h'.length h' ∧ ∀ y ∈ h, ltH x y = false := by
  unfold M.container_heap_Pop__impl_hitHeap M.impl_hitHeap_Len
  have el1 : w64 ((h.length : Int) - 1) = ((h.length - 1 : Nat) : Int) := w64_pred h1 (by omega)
  have e0 : (0 : Int) = ((0 : Nat) : Int) := rfl
  simp only [Option.bind_some, el1]
  rw [e0, swap_ok h1 (by omega)]
  simp only [Option.bind_some]
  have hs : (swp h 0 (h.length - 1)).length = h.length := swp_len
  obtain ⟨r, hr, hJ⟩ := heapDown_ok (h0 := swp h 0 (h.length - 1)) (n := h.length - 1) (by omega) (by omega)
  have sw : ∀ k, el (swp h 0 (h.length - 1)) k = if k = h.length - 1 then el h 0 else if k = 0 then el h (h.length - 1) else el h k := fun k => el_swp h1 (by omega)
  obtain ⟨j1, j2⟩ := hJ (fun k k1 k2 k3 => by
    rw [sw, sw, if_neg (by omega), if_neg k3, if_neg (by omega), if_neg (by omega)]
    exact hh k k1 (by omega))
  rw [← e0, hr]
  simp only [Option.bind_some]
  unfold M.impl_hitHeap_Pop
  have hl2 : r.2.length = h.length := by rw [j1.len, hs]
  have el2 : w64 ((r.2.length : Int) - 1) = ((h.length - 1 : Nat) : Int) := by rw [hl2]; exact el1
  have hlast : el r.2 (h.length - 1) = el h 0 := by rw [j1.out _ (by omega), sw, if_pos rfl]
  rw [el2, gidx_el (by omega), gslice_ok (by omega) (by omega) (by omega)]
  simp only [Option.bind_some, Int.toNat_natCast, hlast, Int.toNat_zero, List.drop_zero]
  refine ⟨_, _, rfl, ?_, ?_, ?_⟩
  · have : r.2.take (h.length - 1) ++ [el h 0] = r.2 := by
      have := List.take_succ_eq_append_getElem (l := r.2) (i := h.length - 1) (by omega)
      rw [← el_lt (by omega), hlast, show h.length - 1 + 1 = r.2.length by omega, List.take_length] at this
      exact this.symm
    show (r.2.take (h.length - 1) ++ [el h 0]).Perm h
    rw [this]
    exact j1.perm.trans (swp_perm h1 (by omega))
  · have ht : (r.2.take (h.length - 1)).length = h.length - 1 := by simp; omega
    rw [ht]
    intro i i1 i2
    have e : ∀ k, k < h.length - 1 → el (r.2.take (h.length - 1)) k = el r.2 k := fun k hk => by
      rw [el_lt (by omega), el_lt (by omega), List.getElem_take]
    rw [e _ (by omega), e _ (by omega)]
    exact j2 i i1 i2
  · intro y hy
    obtain ⟨i, hi, rfl⟩ := List.mem_iff_getElem.1 hy
    rw [← el_lt hi]
    exact hh.top i hi
theorem offer_ok {T kept : List Hit} {k : Nat} (hk : k ≤ 1000) (hT : AscH T) (hTk : T.length ≤ k) (hh : HP kept.length kept) (hp : kept.Perm T) (x : Hit) :
    ∃ kept', M.impl_nearestHits_offer ((k : Int), kept) (x.1, x.2) = some ((k : Int), kept') ∧ HP kept'.length kept' ∧ kept'.Perm ((insH x T).take k) := by
  unfold M.impl_nearestHits_offer
  have hkl := hp.length_eq
  obtain ⟨k1, h1, h2, h3⟩ := push_ok (h := kept) (by omega) hh x
  simp only [h1, Option.bind_some]
  have hl1 : k1.length = T.length + 1 := by rw [h2.length_eq]; simp [hkl]
  have hp1 : k1.Perm (insH x T) := h2.trans ((List.Perm.cons x hp).trans (insH_perm x T).symm)
  have hil := insH_len x T
  by_cases hc : k < k1.length
  · have e1 : decide ((k : Int) < (k1.length : Int)) = true := decide_eq_true (by omega)
    obtain ⟨mx, k2, g1, g2, g3, g4⟩ := pop_ok (h := k1) (by omega) (by omega) h3
    simp only [e1, cond_true, g1, Option.bind_some]
    refine ⟨k2, rfl, g3, ?_⟩
    have hI := insH_asc (x := x) hT
    have hne : insH x T ≠ [] := by intro e; rw [e] at hil; simp at hil
    have hdl : insH x T = (insH x T).take k ++ [(insH x T).getLast hne] := by
      have h := List.dropLast_concat_getLast hne
      rw [List.dropLast_eq_take, show (insH x T).length - 1 = k by omega] at h
      exact h.symm
    have hmx : mx = (insH x T).getLast hne := by
      refine ltH_antisymm (g4 _ (hp1.mem_iff.2 (List.getLast_mem hne))) ?_
      have hmem : mx ∈ insH x T := hp1.mem_iff.1 (g2.mem_iff.1 (by simp))
      rw [hdl] at hmem hI
      rcases List.mem_append.1 hmem with h | h
      · exact (List.pairwise_append.1 hI).2.2 _ h _ (by simp)
      · rw [List.mem_singleton.1 h]; exact linH.irrefl _ trivial
    have := (g2.trans hp1)
    rw [hdl, ← hmx] at this
    exact (List.perm_append_right_iff _).1 this
  · have e1 : decide ((k : Int) < (k1.length : Int)) = false := decide_eq_false (by omega)
    simp only [e1, cond_false]
    refine ⟨k1, rfl, h3, ?_⟩
    rw [List.take_of_length_le (by omega)]; exact hp1
theorem inOrder_ok {T kept : List Hit} (hT : AscH T) (hp : kept.Perm T) (hnd : T.Nodup) (hl : T.length ≤ 16) (k : Int) : M.impl_nearestHits_inOrder (k, kept) = some T := by
  unfold M.impl_nearestHits_inOrder M.slices_SortedFunc_impl_Hit__slices_Values_impl_hitHeap_impl_Hit_1__impl_compareHits M.slices_Collect_impl_Hit__slices_Values_impl_hitHeap_impl_Hit_1 M.slices_AppendSeq_impl_Hit_impl_Hit__slices_Values_impl_hitHeap_impl_Hit_1 M.slices_Values_impl_hitHeap_impl_Hit M.slices_SortFunc_impl_Hit_impl_Hit__impl_compareHits
  have hkl := hp.length_eq
  have hcoll : M.coll kept = some kept := by unfold M.coll; rw [if_pos (by omega)]
  simp only [Option.bind_some, hcoll]
  obtain ⟨d', h1, h2, h3⟩ := sortD_ok (cmp := cmpHits) (lt := ltH) (xs := kept) (by omega) (fun x _ y _ => cmpHits_ok x y trivial trivial) (fun x _ => linH.irrefl x trivial) (fun x _ y _ z _ => linH.trans x y z trivial trivial trivial) (fun x _ y _ => linH.total x y trivial trivial)
  rw [h1]
  simp only [Option.bind_some]
  exact congrArg some (asc_uniq h3 hT (h2.trans hp))

/-! ## The searches -/
theorem nearer_ok (x y : Hit) : M.spec_nearer (x.1, x.2) (y.1, y.2) = some (ltH x y) := by
  unfold M.spec_nearer ltH
  by_cases h1 : x.2 < y.2
  · simp [h1]
  · by_cases h2 : x.2 = y.2
    · simp [h2]
    · have h3 : (x.2 == y.2) = false := beq_eq_false_iff_ne.2 h2
      simp [h1, h2, h3]
def cmpT : Hit → Hit → Option Int := fun x y => some (if ltH x y then -1 else 0)
theorem cmpT_ok : CmpOk cmpT ltH (fun _ => True) := fun x y _ _ => ⟨_, rfl, by cases h : ltH x y <;> simp⟩
theorem addHit_ok {S : List Hit} {k : Nat} (hS : AscH S) (hl : S.length ≤ 1000) (hk : k ≤ 1000) (x : Hit) : M.spec_addHit S (x.1, x.2) (k : Int) = some ((insH x S).take k) := by
  unfold M.spec_addHit
  rw [gapp_ok (by simp; omega)]
  simp only [Option.bind_some, List.nil_append]
  rw [gapp_ok (by simp; omega)]
  simp only [Option.bind_some]
  have hlen : (S ++ [(x.1, x.2)]).length = S.length + 1 := by simp
  have e1 : w64 (((S ++ [(x.1, x.2)]).length : Int) - 1) = (S.length : Int) := by rw [hlen, w64_id (by omega) (by omega)]; omega
  have hf : (fun (s17 : (List (Int × Int)) × (Int)) => Option.bind ((bif decide (0 < s17.2) then
  (gidx s17.1 s17.2).bind fun x22 =>
  (gidx s17.1 (w64 (s17.2 - 1))).bind fun x29 =>
  (M.spec_nearer (x22.1, x22.2) (x29.1, x29.2)).bind fun r37 =>
  some r37
 else
  some false)) fun o20 =>
  (bif o20 then
  (gidx s17.1 s17.2).bind fun x44 =>
  (gidx s17.1 (w64 (s17.2 - 1))).bind fun x54 =>
  (gidx s17.1 s17.2).bind fun x61 =>
  (gidx (s17.1.set s17.2.toNat (x54.1, x54.2)) (w64 (s17.2 - 1))).bind fun x68 =>
  some (.inl (((s17.1.set s17.2.toNat (x54.1, x54.2)).set (w64 (s17.2 - 1)).toNat (x44.1, x44.2)), w64 (s17.2 - 1)))
 else
  some (.inr s17.1) : Option ((List Hit × Int) ⊕ List Hit))) = (fun (s7 : (List Hit) × (Int)) => Option.bind ((bif decide (((0 : Nat) : Int) < s7.2) then
  (gidx s7.1 s7.2).bind fun x12 =>
  (gidx s7.1 (w64 (s7.2 - 1))).bind fun x19 =>
  (cmpT x12 x19).bind fun r27 =>
  some (decide (r27 < 0))
 else
  some false)) fun o10 =>
  (bif o10 then
  (gidx s7.1 (w64 (s7.2 - 1))).bind fun x34 =>
  (gidx s7.1 s7.2).bind fun x41 =>
  (gidx s7.1 s7.2).bind fun x48 =>
  (gidx (s7.1.set s7.2.toNat x34) (w64 (s7.2 - 1))).bind fun x54 =>
  some (.inl (((s7.1.set s7.2.toNat x34).set (w64 (s7.2 - 1)).toNat x41), w64 (s7.2 - 1)))
 else
  some (.inr s7.1))) := by
    funext s
    have ec : ∀ a b : Hit, ((M.spec_nearer (a.1, a.2) (b.1, b.2)).bind fun r37 => some r37) = ((cmpT a b).bind fun r27 => some (decide (r27 < 0))) := by
      intro a b
      rw [nearer_ok, cmp_of cmpT_ok trivial trivial]; rfl
    have ec2 : ∀ (a : Option Hit) (b : Option Hit) (c : Option Hit) (g : Hit → Option Hit) (F : Hit → Hit → Option ((List Hit × Int) ⊕ List Hit)), (a.bind fun x44 => b.bind fun x54 => c.bind fun x61 => (g x54).bind fun _ => F x54 x44) = (b.bind fun x34 => a.bind fun x41 => c.bind fun x48 => (g x34).bind fun _ => F x34 x41) := by
      intro a b c g F
      cases a <;> cases b <;> rfl
    simp only [ec, Int.cast_ofNat_Int]
    congr 1
    funext o
    cases o with
    | false => rfl
    | true => exact ec2 (gidx s.1 s.2) (gidx s.1 (w64 (s.2 - 1))) (gidx s.1 s.2) (fun y => gidx (s.1.set s.2.toNat y) (w64 (s.2 - 1))) (fun y z => some (.inl (((s.1.set s.2.toNat y).set (w64 (s.2 - 1)).toNat z), w64 (s.2 - 1))))
  rw [hf, e1]
  have ea : ∀ i, i < S.length → el (S ++ [(x.1, x.2)]) i = el S i := fun i hi => by rw [el_lt (by omega), el_lt hi, List.getElem_append_left hi]
  obtain ⟨d', h1, h2, h3⟩ := ins_inner cmpT_ok linH (a := 0) (i := S.length) (d0 := S ++ [(x.1, x.2)]) (by omega) (by omega) (fun _ _ => trivial) (S ++ [(x.1, x.2)]) S.length (Nat.zero_le _) (Nat.le_refl _) (PermR.refl _)
    (fun u v _ huv hv hu' hv' => by
      rw [ea u (by omega), ea v (by omega), el_lt (by omega), el_lt (by omega)]
      exact List.pairwise_iff_getElem.1 hS u v _ _ huv) (fun y h h' => by omega)
  rw [h1]
  have hdl : d'.length = S.length + 1 := by rw [h2.len, hlen]
  have hasc : AscH d' := by
    refine List.pairwise_iff_getElem.2 fun i j hi hj hij => ?_
    have := h3 i j (Nat.zero_le _) hij (by omega)
    rwa [el_lt hi, el_lt hj] at this
  have hd : d' = insH x S := asc_uniq hasc (insH_asc hS) (h2.perm.trans ((List.perm_append_comm (l₁ := S) (l₂ := [x])).trans (insH_perm x S).symm))
  have hil := insH_len x S
  simp only [Option.bind_some]
  rw [hd, gslice_ok (by omega) (by omega) (by omega)]
  simp only [Option.bind_some, Int.toNat_zero, List.drop_zero, Option.some.injEq]
  by_cases hc : k ≤ (insH x S).length
  · rw [show (min (k : Int) ((insH x S).length : Int)).toNat = k by omega]
  · rw [show (min (k : Int) ((insH x S).length : Int)).toNat = (insH x S).length by omega, List.take_length, List.take_of_length_le (by omega)]

def hitsOf (l : List Item) (kind : Int) (at_ : List Int) : List Hit := l.map fun x => (x.1, dist kind x.2.1 at_)
theorem hitsOf_len {l : List Item} {kind : Int} {at_ : List Int} : (hitsOf l kind at_).length = l.length := by simp [hitsOf]
theorem hitsOf_nodup {l : List Item} {kind : Int} {at_ : List Int} (hp : l.Pairwise (fun x y => x.1 < y.1)) : (hitsOf l kind at_).Nodup := by
  unfold hitsOf List.Nodup
  rw [List.pairwise_map]
  refine hp.imp fun h e => ?_
  have := congrArg Prod.fst e
  simp only at this; omega
theorem topH_nodup {k : Nat} {l : List Hit} (h : l.Nodup) : (topH k l).Nodup := by
  unfold topH
  exact (List.take_sublist _ _).nodup ((isort_spec l).2.nodup_iff.2 h)
theorem hitsOf_snoc {l : List Item} {kind : Int} {at_ : List Int} {i : Nat} (hi : i < l.length) : hitsOf (l.take (i + 1)) kind at_ = hitsOf (l.take i) kind at_ ++ [(l[i].1, dist kind l[i].2.1 at_)] := by
  unfold hitsOf
  rw [List.take_succ_eq_append_getElem hi, List.map_append]; rfl
def okQuery (l : List Item) (kind : Int) (at_ : List Int) : Bool := okStore l && isKind kind && isVec at_
def nearestL (l : List Item) (kind : Int) (at_ : List Int) (k : Int) : List Hit := if okQuery l kind at_ = true ∧ 1 ≤ k ∧ k ≤ 16 then topH k.toNat (hitsOf l kind at_) else []
theorem okQuery_iff {l : List Item} {kind : Int} {at_ : List Int} : okQuery l kind at_ = true ↔ okStore l = true ∧ isKind kind = true ∧ isVec at_ = true := by simp [okQuery, and_assoc]
theorem specAmong_ok {l : List Item} {kind : Int} {at_ : List Int} {k : Nat} (hvec : ∀ x ∈ l, isVec x.2.1 = true) (hkind : isKind kind = true) (hv : isVec at_ = true) (hlen : l.length ≤ 1000) (hk : k ≤ 1000) : M.spec_nearest l kind at_ (k : Int) = some (topH k (hitsOf l kind at_)) := by
  unfold M.spec_nearest
  refine fold_bind (xs := l) (fun (s : List Hit) i => (s, i)) (fun s x => (insH (x.1, dist kind x.2.1 at_) s).take k) (fun i s => s = topH k (hitsOf (l.take i) kind at_)) (fun s => s) (s0 := []) (by simp [hitsOf, topH, isort]) ?_ ?_ ?_
  · rintro s i hi rfl
    have e1 : decide ((i : Int) < (l.length : Int)) = true := decide_eq_true (by omega)
    have hx := hvec _ (List.getElem_mem hi)
    have hL := topH_len k (hitsOf (l.take i) kind at_)
    simp only [e1, cond_true, gidx_nat hi, Option.bind_some, specDist_vec hkind hx hv, w64_succ (i := i) (by omega)]
    have := addHit_ok (k := k) (topH_asc k (hitsOf (l.take i) kind at_)) (by rw [hL]; omega) hk (l[i].1, dist kind l[i].2.1 at_)
    simp only at this
    rw [this]
    refine ⟨rfl, ?_⟩
    rw [← topH_snoc, hitsOf_snoc hi]
  · intro s _; simp
  · intro hs
    rw [hs, List.take_length]
theorem specNearest1_ok {l : List Item} {kind : Int} {at_ : List Int} {k : Nat} (hq : okQuery l kind at_ = true) (hk : k ≤ 1000) : M.spec_nearest l kind at_ (k : Int) = some (topH k (hitsOf l kind at_)) := by
  obtain ⟨ho, hkind, hv⟩ := okQuery_iff.1 hq
  obtain ⟨hlen, hit, _⟩ := okStore_iff.1 ho
  exact specAmong_ok (fun x hx => isItem_vec (hit x hx)) hkind hv (by omega) hk
theorem inRange_ok (n a b : Int) : M.spec_inRange n a b = some (decide (a ≤ n ∧ n ≤ b)) := by
  unfold M.spec_inRange
  by_cases h : a ≤ n <;> simp [h]
theorem validQuery_ok {l : List Item} {kind : Int} {at_ : List Int} (h : SmallS l) (ha : at_.length < 2000000) : M.spec_validQuery l kind at_ = some (okQuery l kind at_) := by
  unfold M.spec_validQuery okQuery
  simp only [h.specv, specKind_ok, spec_isVec at_ ha, Option.bind_some]
  cases okStore l <;> cases isKind kind <;> simp
theorem count_ok (k : Int) : M.impl_validCount k = some (decide (1 ≤ k ∧ k ≤ 16)) := by
  unfold M.impl_validCount
  by_cases h1 : 1 ≤ k <;> simp [h1]
theorem validSearch_ok {l : List Item} {kind : Int} {at_ : List Int} {k : Int} (h : SmallS l) (ha : at_.length < 2000000) : M.impl_validSearch l kind at_ k = some (decide (okQuery l kind at_ = true ∧ 1 ≤ k ∧ k ≤ 16)) := by
  unfold M.impl_validSearch okQuery
  simp only [h.impl, implKind_ok, impl_valid at_ ha, count_ok, Option.bind_some]
  cases okStore l <;> cases isKind kind <;> cases isVec at_ <;> simp
theorem by_loop {l : List Item} {D : Item → Int} {n : Nat} (hn : n ≤ 1000) {f : ((Int) × (List (Int × Int))) × (Int) → Option ((((Int) × (List (Int × Int))) × (Int)) ⊕ ((Int) × (List (Int × Int))))} (hlen : l.length ≤ 16)
    (hs : ∀ i (h : i < l.length) (kept : List Hit), f (((n : Int), kept), (i : Int)) = (M.impl_nearestHits_offer ((n : Int), kept) (l[i].1, D l[i])).bind fun r => some (.inl ((r.1, r.2), ((i + 1 : Nat) : Int))))
    (he : ∀ kept : List Hit, f (((n : Int), kept), (l.length : Int)) = some (.inr ((n : Int), kept))) :
    ∃ kept', loopM f (((n : Int), []), 0) = some ((n : Int), kept') ∧ kept'.Perm (topH n (l.map fun x => (x.1, D x))) := by
  have key : ∀ m i : Nat, i + m = l.length → ∀ kept : List Hit, HP kept.length kept → kept.Perm (topH n ((l.take i).map fun x => (x.1, D x))) →
      ∃ kept', loopM f (((n : Int), kept), (i : Int)) = some ((n : Int), kept') ∧ kept'.Perm (topH n (l.map fun x => (x.1, D x))) := by
    intro m
    induction m with
    | zero =>
      intro i hi kept hh hp
      have : i = l.length := by omega
      subst this
      rw [List.take_length] at hp
      rw [loopM_eq, he]
      exact ⟨kept, rfl, hp⟩
    | succ m ih =>
      intro i hi kept hh hp
      have hil : i < l.length := by omega
      have hL := topH_len n ((l.take i).map fun x => (x.1, D x))
      obtain ⟨kept', g1, g2, g3⟩ := offer_ok (k := n) hn (topH_asc n ((l.take i).map fun x => (x.1, D x))) (by omega) hh hp (l[i].1, D l[i])
      simp only at g1
      rw [loopM_eq, hs i hil, g1]
      simp only [Option.bind_some, selim]
      refine ih (i + 1) (by omega) kept' g2 ?_
      rw [← topH_snoc] at g3
      rw [List.take_succ_eq_append_getElem hil, List.map_append]; exact g3
  have := key l.length 0 (by omega) [] (fun i h1 h2 => by simp at h2) (by simp [topH, isort])
  rw [show ((0 : Nat) : Int) = 0 from rfl] at this
  exact this
theorem implAmong_ok {l : List Item} {kind : Int} {at_ : List Int} {n : Nat} (hvec : ∀ x ∈ l, isVec x.2.1 = true) (hv : isVec at_ = true) (hnd : (hitsOf l kind at_).Nodup) (hlen : l.length ≤ 16) (hn : n ≤ 1000) : M.impl_nearestAmong l kind at_ (n : Int) = some (topH n (hitsOf l kind at_)) := by
  unfold M.impl_nearestAmong M.impl_nearestBy__impl_nearestAmong_1
  obtain ⟨kept', g1, g2⟩ := by_loop (l := l) (D := fun x => dist kind x.2.1 at_) (n := n) hn (f := fun (s5 : ((Int) × (List (Int × Int))) × (Int)) => (bif decide (s5.2 < (l.length : Int)) then
  (gidx l s5.2).bind fun x10 =>
  (M.impl_nearestAmong_1__p3__p24 (x10.1, x10.2.1, x10.2.2) kind at_).bind fun r25 =>
  (M.impl_nearestHits_offer (s5.1.1, s5.1.2) (x10.1, r25)).bind fun r29 =>
  some (.inl ((r29.1, r29.2), w64 (s5.2 + 1)))
 else
  some (.inr (s5.1.1, s5.1.2)))) hlen (fun i hi kept => by
    have e1 : decide ((i : Int) < (l.length : Int)) = true := decide_eq_true (by omega)
    unfold M.impl_nearestAmong_1__p3__p24
    simp only [e1, cond_true, gidx_nat hi, Option.bind_some, implDist_vec (hvec _ (List.getElem_mem hi)) hv, w64_succ (i := i) (by omega)]) (fun kept => by simp)
  rw [g1]
  have hL := topH_len n (hitsOf l kind at_)
  have hl2 := hitsOf_len (l := l) (kind := kind) (at_ := at_)
  simp only [Option.bind_some, inOrder_ok (topH_asc n (hitsOf l kind at_)) g2 (topH_nodup hnd) (by omega)]
theorem implNearest_ok {l : List Item} {kind : Int} {at_ : List Int} {k : Int} (h : SmallS l) (ha : at_.length < 2000000) : M.impl_Nearest l kind at_ k = some (nearestL l kind at_ k) := by
  unfold M.impl_Nearest nearestL
  simp only [validSearch_ok h ha, Option.bind_some]
  by_cases hk : okQuery l kind at_ = true ∧ 1 ≤ k ∧ k ≤ 16
  · obtain ⟨n, rfl⟩ := Int.eq_ofNat_of_zero_le (show 0 ≤ k by omega)
    obtain ⟨ho, hkind, hv⟩ := okQuery_iff.1 hk.1
    obtain ⟨hlen, hit, hpw⟩ := okStore_iff.1 ho
    have hk' : (1 : Int) ≤ (n : Int) ∧ (n : Int) ≤ 16 := hk.2
    have hdec : decide (okQuery l kind at_ = true ∧ (1 : Int) ≤ (n : Int) ∧ (n : Int) ≤ 16) = true := decide_eq_true hk
    rw [hdec, if_pos (show okQuery l kind at_ = true ∧ (1 : Int) ≤ (n : Int) ∧ (n : Int) ≤ 16 from hk)]
    simp only [Bool.not_true, cond_false, implAmong_ok (n := n) (fun x hx => isItem_vec (hit x hx)) hv (hitsOf_nodup hpw) hlen (by omega), Option.bind_some, Int.toNat_natCast]
  · have hdec : decide (okQuery l kind at_ = true ∧ 1 ≤ k ∧ k ≤ 16) = false := decide_eq_false hk
    rw [hdec, if_neg hk]; rfl
end Go.Vs

namespace Go.Vs

theorem pairEq (x y : Hit) : (([x.1, x.2] : List Int) == ([y.1, y.2] : List Int)) = (x == y) := by
  rw [Bool.eq_iff_iff]
  simp only [beq_iff_eq, List.cons.injEq, and_true]
  exact Prod.ext_iff.symm
theorem equalHits_ok {a b : List Hit} (ha : a.length < 2000000) : M.laws_equalHits a b = some (decide (a = b)) := by
  unfold M.laws_equalHits
  simp only [pairEq]
  by_cases hl : a.length = b.length
  · have e : ((a.length : Int) != (b.length : Int)) = false := by simp; omega
    simp only [e, cond_false]
    rw [loop_all (xs := a.zip b) (P := fun p => p.1 == p.2) (r := false)]
    · by_cases h : a = b
      · subst h
        have : (a.zip a).all (fun p => p.1 == p.2) = true := by
          rw [List.all_eq_true]; intro p hp
          obtain ⟨i, hi, rfl⟩ := List.mem_iff_getElem.1 hp
          simp
        rw [if_pos this]; simp [selim]
      · have : ¬ (a.zip b).all (fun p => p.1 == p.2) = true := by
          intro hh; apply h
          apply List.ext_getElem hl
          intro i h1 h2
          rw [List.all_eq_true] at hh
          have := hh (a[i], b[i]) (List.mem_iff_getElem.2 ⟨i, by simp; omega, by simp⟩)
          simpa using this
        rw [if_neg this]; simp [selim, h]
    · intro i hi
      have hi1 : i < a.length := by simp at hi; omega
      have hi2 : i < b.length := by simp at hi; omega
      have e1 : decide ((i : Int) < (a.length : Int)) = true := by simpa using hi1
      have e2 : w64 ((i : Int) + 1) = (i : Int) + 1 := w64_id (by omega) (by omega)
      simp only [e1, cond_true, gidx_nat hi1, gidx_nat hi2, Option.bind_some, e2, List.getElem_zip]
      cases hc : (a[i] == b[i]) <;> simp
    · have : (a.zip b).length = a.length := by simp; omega
      rw [this]; simp
  · have e : ((a.length : Int) != (b.length : Int)) = true := by simp; omega
    have : a ≠ b := fun h => hl (by rw [h])
    simp [e, this]
theorem hitsOf_mem {l : List Item} {kind : Int} {at_ : List Int} {h : Hit} : h ∈ hitsOf l kind at_ ↔ ∃ x ∈ l, h = (x.1, dist kind x.2.1 at_) := by
  unfold hitsOf
  rw [List.mem_map]
  constructor
  · rintro ⟨x, hx, rfl⟩; exact ⟨x, hx, rfl⟩
  · rintro ⟨x, hx, rfl⟩; exact ⟨x, hx, rfl⟩
theorem topH_take {j k : Nat} (h : j ≤ k) (l : List Hit) : topH j l = (topH k l).take j := by unfold topH; rw [List.take_take, Nat.min_eq_left h]
end Go.Vs

namespace Go.Vs

end Go.Vs

namespace Go.Vs

end Go.Vs

namespace Go.Vs

end Go.Vs

namespace Go.Vs

end Go.Vs

namespace Go.Vs

end Go.Vs

namespace Go.Vs

structure OkL (l : List Item) : Prop where
  len : l.length ≤ 16
  vec : ∀ x ∈ l, isVec x.2.1 = true
  keys : (l.map (·.1)).Nodup
theorem OkL.inj {l : List Item} (h : OkL l) : ∀ x y, x ∈ l → y ∈ l → x.1 = y.1 → x = y := fun x y hx hy e => by
  obtain ⟨i, hi, rfl⟩ := List.mem_iff_getElem.1 hx
  obtain ⟨j, hj, rfl⟩ := List.mem_iff_getElem.1 hy
  have hpw := List.pairwise_iff_getElem.1 (List.pairwise_map.1 h.keys)
  rcases Nat.lt_trichotomy i j with h | h | h
  · exact absurd e (hpw i j hi hj h)
  · subst h; rfl
  · exact absurd e.symm (hpw j i hj hi h)
theorem OkL.sub {l m : List Item} (h : OkL l) (hs : List.Sublist m l) : OkL m :=
  ⟨Nat.le_trans hs.length_le h.len, fun x hx => h.vec x (hs.subset hx), List.Nodup.sublist (hs.map _) h.keys⟩
theorem OkL.perm {l m : List Item} (h : OkL l) (hp : m.Perm l) : OkL m :=
  ⟨by rw [hp.length_eq]; exact h.len, fun x hx => h.vec x (hp.mem_iff.1 hx), (hp.map (·.1)).nodup_iff.2 h.keys⟩

end Go.Vs

namespace Go.Vs

abbrev Nod := Int × Int × Int × Int
def nodesT : Tr Item → Nat → List Nod
  | .nil, _ => []
  | .node x n l r, a => (x.1, n, (bif l.isNil then -1 else ((a + 1 : Nat) : Int)), (bif r.isNil then -1 else ((a + 1 + (nodesT l (a + 1)).length : Nat) : Int))) :: (nodesT l (a + 1) ++ nodesT r (a + 1 + (nodesT l (a + 1)).length))
def Tr.size : Tr Item → Nat
  | .nil => 0
  | .node _ _ l r => l.size + r.size + 1
theorem nodesT_len : ∀ (t : Tr Item) (a : Nat), (nodesT t a).length = t.size
  | .nil, _ => rfl
  | .node x n l r, a => by simp only [nodesT, List.length_cons, List.length_append, nodesT_len l, nodesT_len r, Tr.size]
end Go.Vs

namespace Go.Vs

end Go.Vs

namespace Go.Vs

end Go.Vs

namespace Go.Vs

end Go.Vs

namespace Go.Vs

def itemsT : Tr Item → List Item
  | .nil => []
  | .node x _ l r => x :: (itemsT l ++ itemsT r)
def Sub (L : List Nod) (t : Tr Item) (a : Nat) : Prop := ∃ pre post, L = pre ++ nodesT t a ++ post ∧ pre.length = a
theorem Sub.left {L : List Nod} {x : Item} {q : Int} {l r : Tr Item} {a : Nat} (h : Sub L (.node x q l r) a) : Sub L l (a + 1) := by
  obtain ⟨pre, post, rfl, rfl⟩ := h
  exact ⟨pre ++ (nodesT (.node x q l r) pre.length).take 1, nodesT r (pre.length + 1 + (nodesT l (pre.length + 1)).length) ++ post, by simp [nodesT], by simp [nodesT]⟩
theorem Sub.right {L : List Nod} {x : Item} {q : Int} {l r : Tr Item} {a : Nat} (h : Sub L (.node x q l r) a) : Sub L r (a + 1 + l.size) := by
  obtain ⟨pre, post, rfl, rfl⟩ := h
  exact ⟨pre ++ (nodesT (.node x q l r) pre.length).take 1 ++ nodesT l (pre.length + 1), post, by simp [nodesT, nodesT_len], by simp [nodesT, nodesT_len]; omega⟩
theorem Sub.get {L : List Nod} {x : Item} {q : Int} {l r : Tr Item} {a : Nat} (h : Sub L (.node x q l r) a) : ∃ hl : a < L.length, L[a] = (x.1, q, (bif l.isNil then -1 else ((a + 1 : Nat) : Int)), (bif r.isNil then -1 else ((a + 1 + l.size : Nat) : Int))) := by
  obtain ⟨pre, post, rfl, rfl⟩ := h
  exact ⟨by simp [nodesT], by simp [nodesT, nodesT_len]⟩
theorem Sub.gidx {L : List Nod} {x : Item} {q : Int} {l r : Tr Item} {a : Nat} (h : Sub L (.node x q l r) a) : Go.Vs.gidx L (a : Int) = some (x.1, q, (bif l.isNil then -1 else ((a + 1 : Nat) : Int)), (bif r.isNil then -1 else ((a + 1 + l.size : Nat) : Int))) := by
  obtain ⟨hl, e⟩ := h.get
  rw [gidx_nat hl, e]
theorem sub_self (t : Tr Item) : Sub (nodesT t 0) t 0 := ⟨[], [], by simp, rfl⟩

end Go.Vs

namespace Go.Vs

def hitV (kd : Int) (v : List Int) (x : Item) : Hit := (x.1, dist kd x.2.1 v)
def hitsV (kd : Int) (v : List Int) (l : List Item) : List Hit := l.map (hitV kd v)
def reachH (k : Nat) (V : List Hit) : Int := if (topH k V).length < k then 1000000 else ((topH k V).getD (k - 1) (0, 0)).2
/-! ## Lists with the same nearest ones -/
def SameT (k : Nat) (U V : List Hit) : Prop := topH k U = topH k V
theorem SameT.refl (k : Nat) (U : List Hit) : SameT k U U := rfl
theorem SameT.trans {k : Nat} {U V W : List Hit} (h : SameT k U V) (g : SameT k V W) : SameT k U W := Eq.trans h g
theorem SameT.symm {k : Nat} {U V : List Hit} (h : SameT k U V) : SameT k V U := Eq.symm h
theorem SameT.perm {k : Nat} {U V : List Hit} (h : U.Perm V) : SameT k U V := by
  show topH k U = topH k V
  unfold topH
  rw [isort_uniq (isort_spec V).1 ((isort_spec V).2.trans h.symm)]
theorem SameT.reach {k : Nat} {U V : List Hit} (h : SameT k U V) : reachH k U = reachH k V := by
  unfold reachH
  rw [h]
/-! ## Trees find the nearest -/
/-! ## At how many nodes they look -/
noncomputable def vis (kd : Int) (v : List Int) (k : Nat) : Tr Item → List Hit → Nat
  | .nil, _ => 0
  | .node x q l r, P =>
    if dist kd x.2.1 v ≤ q then
      vis kd v k l (P ++ [hitV kd v x]) + 1 + (if q - dist kd x.2.1 v ≤ reachH k (P ++ [hitV kd v x] ++ hitsV kd v (itemsT l)) then vis kd v k r (P ++ [hitV kd v x] ++ hitsV kd v (itemsT l)) else 0)
    else
      vis kd v k r (P ++ [hitV kd v x]) + 1 + (if dist kd x.2.1 v - q ≤ reachH k (P ++ [hitV kd v x] ++ hitsV kd v (itemsT r)) then vis kd v k l (P ++ [hitV kd v x] ++ hitsV kd v (itemsT r)) else 0)
end Go.Vs

namespace Go.Vs

/-! ## The program's search -/
/-! ## What is answered -/
end Go.Vs

namespace Go.Vs

/-! ## Exact laws -/
end Go.Vs

namespace Go.Vs

end Go.Vs

namespace Go.Vs

/-! ## The first of the least -/
def SmallC (cs : List (List Int)) : Prop := cs.length < 2000000 ∧ ∀ c ∈ cs, c.length < 2000000
/-! ## Drawn centres -/
def NearC (cs : List (List Int)) : Prop := cs.length ≤ 5 ∧ ∀ c ∈ cs, Near c
theorem NearC.small {cs : List (List Int)} (h : NearC cs) : SmallC cs := ⟨by have := h.1; omega, fun c hc => by have := (h.2 c hc).1; omega⟩
/-! ## Laws -/
theorem SmallC.sub {cs ds : List (List Int)} (h : SmallC cs) (hs : ds.Sublist cs) : SmallC ds := ⟨by have := hs.length_le; have := h.1; omega, fun c hc => h.2 c (hs.subset hc)⟩
/-! ## Items and their centres -/
/-! ## Spreads -/
end Go.Vs

namespace Go.Vs

section
variable {cmp : Int → Int → Option Int} {D : Nat → Int} {n : Nat}
end

end Go.Vs

namespace Go.Vs

end Go.Vs

namespace Go.Vs

/-! ## Settling -/
end Go.Vs

namespace Go.Vs

/-! ## What searches cost -/
/-! ## Exact laws -/
end Go.Vs

namespace Go.Vs

/-! ## All items are in a list -/
end Go.Vs

namespace Go.Vs

end Go.Vs

namespace Go.Vs

abbrev Book := List (List Int) × List (List Int)
def SmallB (b : Book) : Prop := SmallC b.1 ∧ SmallC b.2
end Go.Vs

namespace Go.Vs

def hd2 (u v : List Int) : Int := gap (u.getD 0 0) (v.getD 0 0) * gap (u.getD 0 0) (v.getD 0 0) + gap (u.getD 1 0) (v.getD 1 0) * gap (u.getD 1 0) (v.getD 1 0)
def hD (l : List (List Int)) (v : List Int) (j : Nat) : Int := hd2 (l.getD j []) v
end Go.Vs

namespace Go.Vs

end Go.Vs

namespace Go.Vs

end Go.Vs

namespace Go.Vs

end Go.Vs

namespace Go.Vs

end Go.Vs

namespace Go.Vs

def NearB (b : Book) : Prop := NearC b.1 ∧ NearC b.2
theorem NearB.small {b : Book} (h : NearB b) : SmallB b := ⟨h.1.small, h.2.small⟩
/-! ## Planes -/
def NearP (l : List (List Int)) : Prop := l.length ≤ 7 ∧ ∀ c ∈ l, Near c
theorem NearP.small {l : List (List Int)} (h : NearP l) : SmallC l := ⟨by have := h.1; omega, fun c hc => by have := (h.2 c hc).1; omega⟩
end Go.Vs

namespace Go.Vs

/-! ## Tables -/
/-! ## Vectors of codes -/
/-! ## Distances of codes -/
end Go.Vs

namespace Go.Vs

end Go.Vs

namespace Go.Vs

/-! ## Bits -/
end Go.Vs

namespace Go.Vs

/-! ## Opposite vectors -/
/-! ## A plane looks at itself -/
/-! ## Twice a vector -/
end Go.Vs

namespace Go.Vs

/-! ## Buckets -/
end Go.Vs

namespace Go.Vs

theorem someK_ok {k : Nat} (hk : k ≤ 500000) {r : List UInt8 × Int} (hr : Good k r) : ∃ x r', M.spec_someK (r.1, r.2) = some (x, (r'.1, r'.2)) ∧ Good (k + 1) r' ∧ 0 ≤ x ∧ x ≤ 17 := by
  obtain ⟨x, ⟨p, q⟩, h1, g1, m1⟩ := one_ok (by omega) hr (list := [1, 2, 3, 5, 16, 4, 0, 17]) (by simp)
  have h1' : M.spec_reader_one (r.1, r.2) [1, 2, 3, 5, 16, 4, 0, 17] = some (x, (p, q)) := h1
  refine ⟨x, (p, q), by unfold M.spec_someK; simp only [h1', Option.bind_some], g1, ?_⟩
  simp only [List.mem_cons, List.not_mem_nil, or_false] at m1
  omega
/-! ## Ranked again -/
/-! ## The nearest of a bucket -/
end Go.Vs

namespace Go.Vs

def others (l : List Item) (x : Item) : List Item := l.filter fun y => decide (y.1 ≠ x.1)
def nbH (l : List Item) (kind : Int) (many : Nat) (x : Item) : List Hit := topH many (hitsOf (others l x) kind x.2.1)
def nbs (l : List Item) (kind : Int) (many : Nat) (x : Item) : List Int := (nbH l kind many x).map (·.1)
theorem mem_others {l : List Item} {x y : Item} : y ∈ others l x ↔ y ∈ l ∧ y.1 ≠ x.1 := by unfold others; simp
theorem mem_nbs {l : List Item} {kind : Int} {many : Nat} {x : Item} {c : Int} (h : c ∈ nbs l kind many x) : ∃ y ∈ l, y.1 = c ∧ y.1 ≠ x.1 := by
  unfold nbs at h
  obtain ⟨t, ht, rfl⟩ := List.mem_map.1 h
  obtain ⟨y, hy, rfl⟩ := hitsOf_mem.1 (topH_sub _ _ t ht)
  obtain ⟨h1, h2⟩ := mem_others.1 hy
  exact ⟨y, h1, rfl, h2⟩
theorem nbs_take {l : List Item} {kind : Int} {j k : Nat} {x : Item} (h : j ≤ k) : nbs l kind j x = (nbs l kind k x).take j := by
  unfold nbs nbH; rw [topH_take h, List.map_take]
theorem nbs_more {l : List Item} {kind : Int} {j k : Nat} {x : Item} (h : j ≤ k) {c : Int} (hc : c ∈ nbs l kind j x) : c ∈ nbs l kind k x := by
  rw [nbs_take h] at hc; exact List.mem_of_mem_take hc
/-! ## Walks -/
end Go.Vs

namespace Go.Vs

/-! ## Walks -/
end Go.Vs

namespace Go.Vs

def Edge (l : List Item) (kind : Int) (many : Nat) (c d : Int) : Prop := ∃ x ∈ l, x.1 = c ∧ d ∈ nbs l kind many x
inductive Reach (l : List Item) (kind : Int) (many : Nat) (key : Int) : Int → Prop
  | base : Reach l kind many key key
  | step {c d : Int} : Reach l kind many key c → Edge l kind many c d → Reach l kind many key d
theorem Edge.more {l : List Item} {kind : Int} {j k : Nat} {c d : Int} (h : j ≤ k) (e : Edge l kind j c d) : Edge l kind k c d := by
  obtain ⟨x, hx, h1, h2⟩ := e; exact ⟨x, hx, h1, nbs_more h h2⟩
theorem Reach.more {l : List Item} {kind : Int} {j k : Nat} {key c : Int} (h : j ≤ k) (r : Reach l kind j key c) : Reach l kind k key c := by
  induction r with
  | base => exact .base
  | step _ e ih => exact .step ih (e.more h)
theorem Edge.mem {l : List Item} {kind : Int} {many : Nat} {c d : Int} (e : Edge l kind many c d) : ∃ y ∈ l, y.1 = d := by
  obtain ⟨x, _, _, h2⟩ := e
  obtain ⟨y, hy, h3, _⟩ := mem_nbs h2; exact ⟨y, hy, h3⟩
theorem Reach.mem {l : List Item} {kind : Int} {many : Nat} {key c : Int} (hk : ∃ y ∈ l, y.1 = key) (r : Reach l kind many key c) : ∃ y ∈ l, y.1 = c := by
  cases r with
  | base => exact hk
  | step _ e => exact e.mem
end Go.Vs

namespace Go.Vs

/-! ## Filters -/
abbrev Filt := Int × Int × Int
def okTag (t : Int) : Bool := decide (0 ≤ t ∧ t ≤ 15)
theorem okTag_iff {t : Int} : okTag t = true ↔ 0 ≤ t ∧ t ≤ 15 := by simp [okTag]
def okF (f : Filt) : Bool := okTag f.1 && (okTag f.2.1 && okTag f.2.2)
theorem specvF_ok (f : Filt) : M.spec_validFilter (f.1, f.2.1, f.2.2) = some (okF f) := by
  unfold M.spec_validFilter okF okTag
  simp only [inRange_ok, Option.bind_some]
  cases decide (0 ≤ f.1 ∧ f.1 ≤ 15) <;> cases decide (0 ≤ f.2.1 ∧ f.2.1 ≤ 15) <;> rfl
theorem specVF_ok (f : Filt) : M.spec_ValidFilter (f.1, f.2.1, f.2.2) = some (okF f) := by
  unfold M.spec_ValidFilter; simp only [specvF_ok, Option.bind_some]
def passB (f : Filt) (t : Int) : Bool := (gand t f.1 == f.1) && ((gand t f.2.1 == 0) && ((f.2.2 == 0) || (gand t f.2.2 != 0)))
theorem specpass_ok (f : Filt) (t : Int) : M.spec_passes (f.1, f.2.1, f.2.2) t = some (passB f t) := by
  unfold M.spec_passes passB
  cases gand t f.1 == f.1 <;> cases gand t f.2.1 == 0 <;> cases f.2.2 == 0 <;> rfl
def passV (f : Filt) (t : Int) : Bool := okF f && (okTag t && passB f t)
/-! ## What is drawn -/
theorem anyFilter_ok {k : Nat} (hk : k ≤ 500000) {r : List UInt8 × Int} (hr : Good k r) : ∃ (f : Filt) (r' : List UInt8 × Int), M.spec_anyFilter (r.1, r.2) = some ((f.1, f.2.1, f.2.2), (r'.1, r'.2)) ∧ Good (k + 10) r' ∧ (0 ≤ f.1 ∧ f.1 ≤ 15) ∧ (0 ≤ f.2.1 ∧ f.2.1 ≤ 15) ∧ -1 ≤ f.2.2 ∧ f.2.2 ≤ 16 := by
  obtain ⟨x, ⟨p1, q1⟩, h1, g1, m1⟩ := one_ok (by omega) hr (list := [0, 1, 2, 0, 4, 3]) (by simp)
  have h1' : M.spec_reader_one (r.1, r.2) [0, 1, 2, 0, 4, 3] = some (x, (p1, q1)) := h1
  obtain ⟨y, ⟨p2, q2⟩, h2, g2, m2⟩ := one_ok (by omega) g1 (list := [0, 8, 1, 0, 2]) (by simp)
  obtain ⟨z, ⟨p3, q3⟩, h3, g3, m3⟩ := one_ok (by omega) g2 (list := [0, 0, 3, 12, 15]) (by simp)
  obtain ⟨b, ⟨p4, q4⟩, h4, g4, _⟩ := pick_ok (by omega) g3 16
  simp only [List.mem_cons, List.not_mem_nil, or_false] at m1 m2 m3
  unfold M.spec_anyFilter
  simp only [h1', h2, h3, h4, Option.bind_some]
  by_cases hb : b = 0
  · obtain ⟨u, ⟨p5, q5⟩, h5, g5, m5⟩ := one_ok (by omega) g4 (list := [-1, 16]) (by simp)
    simp only [List.mem_cons, List.not_mem_nil, or_false] at m5
    simp only [hb, beq_self_eq_true, cond_true, h5, Option.bind_some]
    exact ⟨(x, y, u), (p5, q5), rfl, g5.mono (by omega), by simp only; omega, by simp only; omega, by simp only; omega, by simp only; omega⟩
  · have e0 : (b == 0) = false := by simpa using hb
    simp only [e0, cond_false, Option.bind_some]
    exact ⟨(x, y, z), (p4, q4), rfl, g4.mono (by omega), by simp only; omega, by simp only; omega, by simp only; omega, by simp only; omega⟩
end Go.Vs

namespace Go.Vs

def filtL (l : List Item) (f : Filt) : List Item := if okStore l = true ∧ okF f = true then l.filter (fun x => passB f x.2.2) else []
theorem specFilter_ok {l : List Item} {f : Filt} (sl : SmallS l) : M.spec_FilterStore l (f.1, f.2.1, f.2.2) = some (filtL l f) := by
  unfold M.spec_FilterStore filtL
  simp only [sl.specv, specvF_ok, Option.bind_some]
  cases ho : okStore l with
  | false => simp
  | true =>
    cases hf : okF f with
    | false => simp
    | true =>
      obtain ⟨hlen, hit, _⟩ := okStore_iff.1 ho
      simp only [Bool.not_true, cond_false, Option.bind_some, and_self, if_true]
      refine fold_bind (xs := l) (fun (s : List Item) i => (s, i)) (fun s x => if passB f x.2.2 = true then s ++ [x] else s) (fun i s => s = (l.take i).filter fun x => passB f x.2.2) (fun s => s) (s0 := []) (by simp) ?_ ?_ ?_
      · rintro s i hi rfl
        have e1 : decide ((i : Int) < (l.length : Int)) = true := decide_eq_true (by omega)
        have hx := isItem_len (hit _ (List.getElem_mem hi))
        have hl : ((l.take i).filter fun x => passB f x.2.2).length ≤ i := Nat.le_trans (List.length_filter_le _ _) (by simp; omega)
        simp only [e1, cond_true, gidx_nat hi, Option.bind_some, specpass_ok, copyItem_spec (show l[i].2.1.length ≤ 1000000 by omega), w64_succ (i := i) (by omega)]
        rw [List.take_succ_eq_append_getElem hi, List.filter_append]
        cases hin : passB f l[i].2.2 with
        | true =>
          simp only [cond_true, if_true]
          rw [gapp_ok (by simp only [List.length_singleton]; omega)]
          simp [hin]
        | false => simp [hin]
      · intro s _; simp
      · intro hs
        rw [hs, List.take_length]
theorem filtL_ok {l : List Item} {f : Filt} (h : okStore l = true) : okStore (filtL l f) = true := by
  unfold filtL
  split
  · exact okStore_sub h List.filter_sublist
  · rfl
def filtN (l : List Item) (f : Filt) (kind : Int) (v : List Int) (k : Int) : List Hit := if okF f = true then (if okQuery l kind v = true ∧ 1 ≤ k ∧ k ≤ 16 then topH k.toNat (hitsOf (filtL l f) kind v) else []) else []
theorem specFiltN_ok {l : List Item} {f : Filt} {kind : Int} {v : List Int} {k : Int} (sl : SmallS l) (hv : v.length < 2000000) : M.spec_FilterNearest l (f.1, f.2.1, f.2.2) kind v k = some (filtN l f kind v k) := by
  unfold M.spec_FilterNearest filtN
  simp only [specvF_ok, validQuery_ok sl hv, inRange_ok, Option.bind_some]
  cases hf : okF f with
  | false => simp
  | true =>
    simp only [Bool.not_true, cond_false, if_true]
    by_cases hk : okQuery l kind v = true ∧ 1 ≤ k ∧ k ≤ 16
    · obtain ⟨n, rfl⟩ := Int.eq_ofNat_of_zero_le (show 0 ≤ k by omega)
      obtain ⟨ho, hkind, hvv⟩ := okQuery_iff.1 hk.1
      have hd := decide_eq_true hk.2
      rw [if_pos hk]
      have oc := filtL_ok (f := f) ho
      have hq2 : okQuery (filtL l f) kind v = true := okQuery_iff.2 ⟨oc, hkind, hvv⟩
      have hk2 : (n : Int) ≤ 16 := hk.2.2
      simp only [hk.1, hd, Bool.not_true, cond_false, Option.bind_some, specFilter_ok sl, specNearest1_ok hq2 (by omega : n ≤ 1000), Int.toNat_natCast]
    · rw [if_neg hk]
      cases hq : okQuery l kind v with
      | false => simp
      | true =>
        have hd : decide (1 ≤ k ∧ k ≤ 16) = false := decide_eq_false fun h => hk ⟨hq, h⟩
        simp [hd]
theorem drawFN_ok (code : List UInt8) : ∃ (l : List Item) (f : Filt) (kind : Int) (v : List Int) (k : Int), M.spec_DrawFilterNearest code = some (l, (f.1, f.2.1, f.2.2), kind, v, k) ∧ NearS l ∧ Near v ∧ 0 ≤ k ∧ k ≤ 17 := by
  obtain ⟨⟨r1, r2⟩, h, g⟩ := newReader_ok code
  obtain ⟨l, ⟨q1, q2⟩, h1, g1, n⟩ := anyStore_ok (by omega) g
  obtain ⟨f, ⟨w1, w2⟩, h2, g2, _⟩ := anyFilter_ok (by omega) g1
  obtain ⟨kind, ⟨u1, u2⟩, h3, g3⟩ := kind_ok (by omega) g2
  obtain ⟨v, ⟨t1, t2⟩, h4, g4, nv⟩ := any_ok (by omega) g3
  obtain ⟨k, ⟨s1, s2⟩, h5, g5, m5⟩ := someK_ok (by omega) g4
  exact ⟨l, f, kind, v, k, by unfold M.spec_DrawFilterNearest; simp only [h, h1, h2, h3, h4, h5, Option.bind_some], n, nv, m5⟩
end Go.Vs

namespace Go.Vs

theorem validTags_ok (t : Int) : M.impl_validTags t = some (okTag t) := by
  unfold M.impl_validTags okTag
  by_cases h1 : 0 ≤ t <;> by_cases h2 : t ≤ 15 <;> simp [h1, h2]
/-! ## Walks -/
end Go.Vs

namespace Go.Vs

/-! ## Pairs -/
end Go.Vs

namespace Go.Vs

theorem implVF_ok (f : Filt) : M.impl_ValidFilter (f.1, f.2.1, f.2.2) = some (okF f) := by
  unfold M.impl_ValidFilter okF
  simp only [validTags_ok, Option.bind_some]
  cases okTag f.1 <;> cases okTag f.2.1 <;> simp
theorem accepts_ok (f : Filt) (t : Int) : M.impl_Filter_accepts (f.1, f.2.1, f.2.2) t = some (passB f t) := by
  unfold M.impl_Filter_accepts M.impl_tagMask_hasAll M.impl_tagMask_hasAny passB
  simp only [Option.bind_some]
  have e : (!(gand t f.2.1 != 0)) = (gand t f.2.1 == 0) := by
    rw [Bool.eq_iff_iff]; simp
  rw [e]
  cases (gand t f.1 == f.1) <;> cases (gand t f.2.1 == 0) <;> cases (f.2.2 == 0) <;> simp
theorem implPass_ok (f : Filt) (t : Int) : M.impl_Passes (f.1, f.2.1, f.2.2) t = some (passV f t) := by
  unfold M.impl_Passes passV
  simp only [implVF_ok, validTags_ok, accepts_ok, Option.bind_some]
  cases okF f <;> cases okTag t <;> simp
theorem itemsOf_ok {l : List Item} (hl : l.length ≤ 1000000) (f : Filt) : M.impl_Filter_itemsOf (f.1, f.2.1, f.2.2) l = some (l.filter fun x => passB f x.2.2) := by
  unfold M.impl_Filter_itemsOf M.impl_itemsThat__x_impl_Filter_itemsOf_1 M.x_impl_Filter_itemsOf_1__p_impl_Filter
  rw [Option.bind_assoc]
  refine fold_bind (xs := l) (fun (s : List Item) i => (s, i)) (fun s x => if passB f x.2.2 = true then s ++ [x] else s) (fun i s => s = (l.take i).filter fun x => passB f x.2.2) (fun s => s) (s0 := []) (by simp) ?_ ?_ ?_
  · rintro s i hi rfl
    have e1 : decide ((i : Int) < (l.length : Int)) = true := decide_eq_true (by omega)
    simp only [e1, cond_true, gidx_nat hi, Option.bind_some, accepts_ok, w64_succ (i := i) (by omega)]
    have hl : ((l.take i).filter fun x => passB f x.2.2).length ≤ i := Nat.le_trans (List.length_filter_le _ _) (by simp; omega)
    rw [List.take_succ_eq_append_getElem hi, List.filter_append]
    cases hin : passB f l[i].2.2 with
    | true =>
      simp only [cond_true]
      rw [gapp_ok (by simp only [List.length_singleton]; omega)]
      simp [hin]
    | false => simp [hin]
  · intro s _; simp
  · intro hs
    rw [hs, List.take_length]; rfl
theorem filt_sub {l : List Item} {f : Filt} : ∀ x ∈ l.filter (fun x => passB f x.2.2), x ∈ l := fun x hx => (List.mem_filter.1 hx).1
theorem implFilter_ok {l : List Item} {f : Filt} (sl : SmallS l) : M.impl_FilterStore l (f.1, f.2.1, f.2.2) = some (filtL l f) := by
  unfold M.impl_FilterStore filtL
  simp only [sl.impl, implVF_ok, Option.bind_some]
  cases ho : okStore l with
  | false => simp
  | true =>
    cases hf : okF f with
    | false => simp
    | true =>
      obtain ⟨hlen, hit, hp⟩ := okStore_iff.1 ho
      simp only [Bool.not_true, cond_false, Option.bind_some, itemsOf_ok (show l.length ≤ 1000000 by omega), and_self, if_true]
      have hs : SmallS (l.filter fun x => passB f x.2.2) := ⟨Nat.le_trans (List.length_filter_le _ _) sl.1, fun x hx => sl.2 x (filt_sub x hx)⟩
      rw [copyItems_ok hs]; rfl
theorem filt_among {l : List Item} {f : Filt} {kind : Int} {v : List Int} {n : Nat} (ho : okStore l = true) (hv : isVec v = true) (hn : n ≤ 1000) : M.impl_nearestAmong (l.filter fun x => passB f x.2.2) kind v (n : Int) = some (topH n (hitsOf (l.filter fun x => passB f x.2.2) kind v)) := by
  obtain ⟨hlen, hit, hp⟩ := okStore_iff.1 ho
  exact implAmong_ok (fun x hx => isItem_vec (hit x (filt_sub x hx))) hv (hitsOf_nodup (hp.sublist List.filter_sublist)) (Nat.le_trans (List.length_filter_le _ _) hlen) hn
theorem implFiltN_ok {l : List Item} {f : Filt} {kind : Int} {v : List Int} {k : Int} (sl : SmallS l) (hv : v.length < 2000000) : M.impl_FilterNearest l (f.1, f.2.1, f.2.2) kind v k = some (filtN l f kind v k) := by
  unfold M.impl_FilterNearest filtN
  simp only [implVF_ok, validSearch_ok sl hv, Option.bind_some]
  cases hf : okF f with
  | false => simp
  | true =>
    by_cases hq : okQuery l kind v = true ∧ 1 ≤ k ∧ k ≤ 16
    · obtain ⟨n, rfl⟩ := Int.eq_ofNat_of_zero_le (show 0 ≤ k by omega)
      obtain ⟨ho, hk, hvv⟩ := okQuery_iff.1 hq.1
      have hn : n ≤ 1000 := by omega
      have hlen := (okStore_iff.1 ho).1
      have hF : filtL l f = l.filter fun x => passB f x.2.2 := by unfold filtL; rw [if_pos ⟨ho, hf⟩]
      have hd := decide_eq_true hq
      simp only [hd, Bool.not_true, cond_false, Option.bind_some, itemsOf_ok (show l.length ≤ 1000000 by omega), filt_among ho hvv hn, if_true, hF, Int.toNat_natCast]
      rw [if_pos hq]
    · have hd := decide_eq_false hq
      simp only [hd, Bool.not_true, Bool.not_false, cond_false, cond_true, Option.bind_some, if_true]
      rw [if_neg hq]
end Go.Vs

namespace Go.Vs

/-! ## Walks -/
end Go.Vs

namespace Go.Vs

/-! ## Reach -/
end Go.Vs

namespace Go.Vs

/-! ## The closest pair -/
end Go.Vs

namespace Go.Vs

end Go.Vs

namespace Go.Vs

theorem passV_of {f : Filt} {t : Int} (h : okF f = true) (ht : okTag t = true) : passV f t = passB f t := by unfold passV; rw [h, ht]; simp
/-! ## Bit by bit -/
/-! ## Filtered stores -/
theorem filtL_of {l : List Item} {f : Filt} (h : okStore l = true) (hf : okF f = true) : filtL l f = l.filter (fun x => passB f x.2.2) := if_pos ⟨h, hf⟩
theorem filtL_small {l : List Item} {f : Filt} : SmallS (filtL l f) := by
  unfold filtL
  split
  · rename_i hq; exact okStore_small (okStore_sub hq.1 List.filter_sublist)
  · exact ⟨by simp, fun x hx => by simp at hx⟩
theorem item_tag {x : Item} (h : isItem x = true) : okTag x.2.2 = true := okTag_iff.2 ⟨(isItem_iff.1 h).2.2.1, (isItem_iff.1 h).2.2.2⟩
theorem filtN_len {l : List Item} {f : Filt} {kind : Int} {v : List Int} {k : Int} : (filtN l f kind v k).length < 2000000 := by
  unfold filtN
  split
  · split
    · have := topH_len k.toNat (hitsOf (filtL l f) kind v)
      omega
    · simp
  · simp
theorem law_FilterNearest (code : List UInt8) : M.laws_FnFilterNearest code = some true := by
  unfold M.laws_FnFilterNearest
  by_cases hc : 1048576 < (code.length : Int)
  · simp [hc]
  obtain ⟨l, f, kind, v, k, h, nl, nv, nk⟩ := drawFN_ok code
  have sl := nl.small
  have la : v.length < 2000000 := by have := nv.1; omega
  simp only [hc, decide_false, cond_false, h, Option.bind_some, specFiltN_ok sl la, implFiltN_ok sl la, equalHits_ok filtN_len, decide_true, Bool.not_true]
  rw [loop_all (xs := filtN l f kind v k) (P := fun _ => true) (r := false)]
  · simp only [List.all_eq_true.2 (fun x _ => rfl), if_true, selim, Option.bind_some, specVF_ok f, implVF_ok f, sl.impl]
    cases hf : okF f with
    | false => simp
    | true =>
      cases ho : okStore l with
      | false => simp
      | true =>
        have hos := filtL_ok (f := f) ho
        have he : nearestL (filtL l f) kind v k = filtN l f kind v k := by
          unfold nearestL filtN okQuery
          rw [if_pos hf, hos, ho]
        simp only [Bool.not_true, cond_false, specFilter_ok sl, implFilter_ok sl, Option.bind_some, implNearest_ok filtL_small la, he, equalHits_ok filtN_len, decide_true]
  · intro i hi
    have e5 : decide ((i : Int) < ((filtN l f kind v k).length : Int)) = true := decide_eq_true (by omega)
    have hl' := filtN_len (l := l) (f := f) (kind := kind) (v := v) (k := k)
    have e6 : w64 ((i : Int) + 1) = (i : Int) + 1 := w64_id (by omega) (by omega)
    have hmem : (filtN l f kind v k)[i] ∈ filtN l f kind v k := List.getElem_mem hi
    have hg : gidx (filtN l f kind v k) (i : Int) = some (filtN l f kind v k)[i] := gidx_nat hi
    generalize (filtN l f kind v k)[i] = t at *
    have hmm : okF f = true ∧ okQuery l kind v = true ∧ t ∈ hitsOf (filtL l f) kind v := by
      unfold filtN at hmem
      split at hmem
      · rename_i hf
        split at hmem
        · rename_i hq
          exact ⟨hf, hq.1, topH_sub _ _ _ hmem⟩
        · simp at hmem
      · simp at hmem
    obtain ⟨hf, hq, htm⟩ := hmm
    obtain ⟨ho, _, _⟩ := okQuery_iff.1 hq
    obtain ⟨hlen, hit, hp⟩ := okStore_iff.1 ho
    obtain ⟨x, hx, rfl⟩ := hitsOf_mem.1 htm
    rw [filtL_of ho hf] at hx
    obtain ⟨hxl, hxp⟩ := List.mem_filter.1 hx
    have hpi := implPass_ok f x.2.2
    rw [passV_of hf (item_tag (hit x hxl)), hxp] at hpi
    simp only [e5, cond_true, hg, Option.bind_some, itemOf_ok sl.hL, find_key hp hxl, Option.getD_some, hpi, Bool.not_true, cond_false, e6, if_true]
  · simp

/-! ## Two filters as one -/
end Go.Vs
