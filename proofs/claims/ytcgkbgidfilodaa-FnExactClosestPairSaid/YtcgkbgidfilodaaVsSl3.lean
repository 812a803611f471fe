/- Parts of slices, stores into them, arrays, structs. -/
import Derived.Test.YtcgkbgidfilodaaVsSl2
set_option linter.unusedVariables false
set_option linter.unusedSimpArgs false
namespace Go.Vs
open Go

def gslice {α : Type} (xs : List α) (l h : Int) : Option (List α) := if 0 ≤ l ∧ l ≤ h ∧ h ≤ (xs.length : Int) then some ((xs.take h.toNat).drop l.toNat) else none

/-- A part of a slice value. -/
structure Slc (a : Option Addr) (m c s : Nat) (l h : Int) (a' : Option Addr) (m' c' : Nat) : Prop where
  h0 : 0 ≤ l
  h1 : l ≤ h
  h2 : h ≤ (m : Int)
  h3 : m ≤ c
  ea : a' = if c = l.toNat then a else a.map (·.add (l.toNat * s))
  em : m' = h.toNat - l.toNat
  ec : c' = c - l.toNat

section
variable {P : Program} {ops : Array Oper} {Q : Exit → Act → World → Prop} {n d : Nat} {ρ : Nat → Value} {σ : St} {u v : Value} {rest : List Oper}
variable {ty T T' E E' : TypeId} {pos : String} {af : Array Edge} {x y p q : Operand} {a b l h : Int} {α : Type} [Rp α] {xs ys r : List α} {z : Value} {s bt lo : Nat} {gd : Option (Nat × Bool)} {H : Array Obj} {dst : Option Nat} {ad ad' : Option Addr} {m c m' c' : Nat}

omit [Rp α] in
theorem gslice_some (hg : gslice xs l h = some r) : 0 ≤ l ∧ l ≤ h ∧ h ≤ (xs.length : Int) ∧ r = (xs.take h.toNat).drop l.toNat ∧ r.length = h.toNat - l.toNat := by
  unfold gslice at hg
  split at hg
  · rename_i hc
    cases hg
    refine ⟨hc.1, hc.2.1, hc.2.2, rfl, ?_⟩
    rw [List.length_drop, List.length_take]; omega
  · cases hg

omit [Rp α] in
theorem part_get (hg : gslice xs l h = some r) (i : Nat) (hi : i < r.length) : ∃ hj : l.toNat + i < xs.length, r[i] = xs[l.toNat + i] := by
  obtain ⟨h0, h1, h2, rfl, h4⟩ := gslice_some hg
  refine ⟨by omega, ?_⟩
  rw [List.getElem_drop, List.getElem_take]

theorem Rd.slice' {el : Nat} (hR : Rd el σ (Sl ad xs c) xs) (hcap : xs.length ≤ c) (hg : gslice xs l h = some r) :
    ∃ ad' c', Slc ad xs.length c (Rp.sz α) l h ad' r.length c' ∧ ((ad' = ad ∧ c' = c ∧ xs = [] ∧ r = []) ∨ ∃ bl o cp o', ad = some ⟨bl, o, none⟩ ∧ Sl ad' r c' = .slice (some ⟨bl, o', none⟩) r.length cp ∧ cp = c - l.toNat ∧
      (o' = o + l.toNat * Rp.sz α ∨ (o' = o ∧ r = [] ∧ cp = 0)) ∧ ∀ i, (hi : i < r.length) → At el σ bl (o' + i * Rp.sz α) r[i]) := by
  obtain ⟨h0, h1, h2, h3, h4⟩ := gslice_some hg
  refine ⟨if c = l.toNat then ad else ad.map (·.add (l.toNat * Rp.sz α)), c - l.toNat, ⟨h0, h1, h2, hcap, rfl, h4, rfl⟩, ?_⟩
  rcases hR with ⟨hv, rfl⟩ | ⟨bl, o, cp, hv, hA⟩
  · simp only [List.length_nil] at h2
    have : l = 0 := by omega
    subst this
    have hr : r = [] := List.eq_nil_of_length_eq_zero (by omega)
    subst hr
    refine .inl ⟨?_, by simp, rfl, rfl⟩
    split
    · rfl
    · cases ad with
      | none => rfl
      | some a => simp [Addr.add]
  · cases hv
    right
    by_cases hc : c = l.toNat
    · have hr : r = [] := List.eq_nil_of_length_eq_zero (by omega)
      subst hr
      exact ⟨bl, o, c - l.toNat, o, rfl, by simp [hc], rfl, .inr ⟨rfl, rfl, by omega⟩, fun i hi => by simp at hi⟩
    · refine ⟨bl, o, c - l.toNat, o + l.toNat * Rp.sz α, rfl, by simp [hc, add_plain], rfl, .inl rfl, fun i hi => ?_⟩
      obtain ⟨hj, e⟩ := part_get hg i hi
      rw [e, Nat.add_assoc, ← Nat.add_mul]
      exact hA _ hj

theorem RS.cap {el : Nat} (hR : RS el σ (Sl ad xs c) xs) : xs.length ≤ c := by
  rcases hR with ⟨hv, rfl⟩ | ⟨b2, o2, c2, hv, _, h4, _⟩
  · simp
  · cases hv; exact h4
theorem RS.slice {el : Nat} (hR : RS el σ (Sl ad xs c) xs) (hg : gslice xs l h = some r) : ∃ ad' c', Slc ad xs.length c (Rp.sz α) l h ad' r.length c' ∧ RS el σ (Sl ad' r c') r := by
  obtain ⟨h0, h1, h2, h3, h4⟩ := gslice_some hg
  have hcap := hR.cap
  obtain ⟨ad', c', hs, hx⟩ := hR.rd.slice' hcap hg
  refine ⟨ad', c', hs, ?_⟩
  by_cases hr : r = []
  · subst hr; exact .inl ⟨⟨_, _, rfl⟩, rfl⟩
  rcases hx with ⟨_, _, _, hx⟩ | ⟨bl, o, cp, o', rfl, e1, e2, e3, e4⟩
  · exact absurd hx hr
  · rcases hR with ⟨_, rfl⟩ | ⟨b2, o2, c2, hv, hel, _, hvis, _⟩
    · exact absurd (List.eq_nil_of_length_eq_zero (by simp at h2; omega)) hr
    · cases hv
      refine .inr ⟨bl, o', cp, e1, hel, by omega, ?_, e4⟩
      rcases e3 with rfl | ⟨rfl, rfl, _⟩
      · have : (l.toNat + r.length) * Rp.sz α ≤ xs.length * Rp.sz α := Nat.mul_le_mul_right _ (by omega)
        rw [Nat.add_mul] at this; omega
      · exact absurd rfl hr
theorem Ow.cap {el : Nat} (hO : Ow σ lo el (Sl ad xs c) xs) : xs.length ≤ c := by
  rcases hO with ⟨hv, rfl⟩ | ⟨b2, o2, c2, C, T, hv, _, _, h4, _⟩
  · simp
  · cases hv; exact h4
theorem Ow.slice {el : Nat} (hO : Ow σ lo el (Sl ad xs c) xs) (hg : gslice xs l h = some r) : ∃ ad' c', Slc ad xs.length c (Rp.sz α) l h ad' r.length c' ∧ Ow σ lo el (Sl ad' r c') r ∧ (∀ b, blk (Sl ad' r c') = some b → blk (Sl ad xs c) = some b) := by
  obtain ⟨h0, h1, h2, h3, h4⟩ := gslice_some hg
  have hcap := hO.cap
  obtain ⟨ad', c', hs, hx⟩ := hO.rd.slice' hcap hg
  refine ⟨ad', c', hs, ?_, ?_⟩
  · rcases hx with ⟨rfl, rfl, rfl, rfl⟩ | ⟨bl, o, cp, o', rfl, e1, e2, e3, e4⟩
    · exact hO
    · rcases hO with ⟨hv, _⟩ | ⟨b2, o2, c2, C, T0, hv, g2, g3, g4, g5, g6, _⟩
      · cases hv
      · cases hv
        refine .inr ⟨bl, o', cp, C, T0, e1, g2, g3, by omega, ?_, g6, e4⟩
        rcases e3 with rfl | ⟨rfl, rfl, h9⟩
        · have : (l.toNat + cp) * Rp.sz α ≤ c * Rp.sz α := Nat.mul_le_mul_right _ (by omega)
          rw [Nat.add_mul] at this; omega
        · subst h9; simp only [Nat.zero_mul]; omega
  · intro b hb
    rcases hx with ⟨rfl, rfl, rfl, rfl⟩ | ⟨bl, o, cp, o', rfl, e1, e2, e3, e4⟩
    · exact hb
    · rw [e1] at hb; cases hb; rfl

theorem run_slice {lo' hi' : Option Value} (hT : P.underlying T = some (.slice E)) (hi : TI P E z s bt) (hs : Slc ad m c s l h ad' m' c')
    (hl : lo' = some (I l) ∨ (lo' = none ∧ l = 0)) (hh : hi' = some (I h) ∨ (hi' = none ∧ h = m)) (w : World) :
    (Instr.sliceAt T (.slice ad m c) lo' hi' none).run P w = .ok (.slice ad' m' c') w := by
  obtain ⟨h0, h1, h2, h3, rfl, rfl, rfl⟩ := hs
  have hh' : h ≤ (c : Int) := by omega
  have h0' : 0 ≤ h := by omega
  have e1 : (h.toNat : Int) = h := Int.toNat_of_nonneg h0'
  rcases hl with rfl | ⟨rfl, rfl⟩ <;> rcases hh with rfl | ⟨rfl, rfl⟩ <;>
    simp [Instr.sliceAt, Instr.slice, underlying, hT, Instr.sliceBounds, Instr.sliceBound, asIntOf, h0, h0', hh', h1, e1, run_typeInfo hi]

theorem rv_slice_lh (hT : P.underlying T = some (.slice E)) (hi : TI P E z s bt) (hs : Slc ad m c s l h ad' m' c') (hx : ev n ρ x = .slice ad m c) (hp : ev n ρ p = I l) (hq : ev n ρ q = I h) :
    RunV P H n ρ ⟨dst, .slice T x (some p) (some q) none, ty, pos, af, gd⟩ (.slice ad' m' c') := fun w _ => by
  simp [execOp, hx, hp, hq, run_slice hT hi hs (.inl rfl) (.inl rfl)]
theorem rv_slice_l (hT : P.underlying T = some (.slice E)) (hi : TI P E z s bt) (hs : Slc ad m c s l m ad' m' c') (hx : ev n ρ x = .slice ad m c) (hp : ev n ρ p = I l) :
    RunV P H n ρ ⟨dst, .slice T x (some p) none none, ty, pos, af, gd⟩ (.slice ad' m' c') := fun w _ => by
  simp [execOp, hx, hp, run_slice hT hi hs (.inl rfl) (.inr ⟨rfl, rfl⟩)]
theorem rv_slice_h (hT : P.underlying T = some (.slice E)) (hi : TI P E z s bt) (hs : Slc ad m c s 0 h ad' m' c') (hx : ev n ρ x = .slice ad m c) (hq : ev n ρ q = I h) :
    RunV P H n ρ ⟨dst, .slice T x none (some q) none, ty, pos, af, gd⟩ (.slice ad' m' c') := fun w _ => by
  simp [execOp, hx, hq, run_slice hT hi hs (.inr ⟨rfl, rfl⟩) (.inl rfl)]

/-- The whole of an array in a box, as a slice. -/
theorem rv_slice_arr {bl k : Nat} (hT : P.underlying T = some (.array k E)) (hi : TI P E z s bt) (hk : 0 < k) (hx : ev n ρ x = pt bl 0) :
    RunV P H n ρ ⟨dst, .slice T x none none none, ty, pos, af, gd⟩ (.slice (some ⟨bl, 0, none⟩) k k) := fun w _ => by
  have : ¬ k = 0 := by omega
  simp [execOp, hx, Instr.sliceAt, underlying, hT, Instr.sureAddr, Instr.sliceBounds, run_typeInfo hi, Addr.add]

/-- A store into an element of a slice of the call's own. -/
theorem run_store_own {el : Nat} {e e' : α} {bl o o' k : Nat} {vs : List Value} (hi : TI P T z s bt) (hO : Ow σ lo el v xs) (hg : gidx xs a = some e) (hix : Ix v a (Rp.sz α) bl o) (hx : ev n ρ x = pt bl o') (ho : o' = o + k) (hy : ev n ρ y = u)
    (hu : u.cells = vs.toArray) (hs : vs.length = s) (hk : k + vs.length ≤ Rp.sz α) (hp : ∀ t ∈ vs, plain t = true) (hrp : ∀ cs, Rp.rp el σ cs e → Rp.rp el σ (wrL cs k vs) e')
    : ∃ σ' : St, RunS P σ.w n ρ ⟨dst, .store T x y, ty, pos, af, gd⟩ σ'.w ∧ Mod (blk v) σ σ' ∧ Ow σ' lo el v (xs.set a.toNat e') := by
  subst ho
  obtain ⟨ob, m, c, rfl, h0, h1, rfl⟩ := hix.it
  obtain ⟨_, hlt, he⟩ := gidx_some hg
  rcases hO with ⟨hv, _⟩ | ⟨b2, o2, c2, C, T0, hv, g2, g3, g4, g5, g6, g7⟩
  · cases hv
  cases hv
  have hb := lt_of_block g3
  have hrow : (a.toNat + 1) * Rp.sz α ≤ c * Rp.sz α := Nat.mul_le_mul_right _ (by omega)
  rw [Nat.add_mul] at hrow
  have hst := run_storeCells (P := P) bl (ob + a.toNat * Rp.sz α + k) T0 vs 0 σ.w C g3 (by omega) hp
  simp only [Nat.add_zero] at hst
  have hm := St.put_mod (σ := σ) (o := .cells (wr C (ob + a.toNat * Rp.sz α + k) vs) T0 (0, 0)) g6
  refine ⟨σ.put bl (.cells (wr C (ob + a.toNat * Rp.sz α + k) vs) T0 (0, 0)), ?_, hm, .inr ⟨bl, ob, c, _, T0, by rw [List.length_set], g2, World.put_at _ hb, by rw [List.length_set]; exact g4, by rw [wr_size]; exact g5, g6, fun i hi' => ?_⟩⟩
  · simp [RunS, execOp, hx, hy, Instr.storeAt, Instr.sureAddr, storeVar, run_typeInfo hi, hu, hs, hst, St.put]
  · rw [List.length_set] at hi'
    by_cases hia : i = a.toNat
    · subst hia
      simp only [List.getElem_set_self]
      obtain ⟨cs, h3, h4⟩ := he ▸ g7 _ hi'
      have hl := Rp.len h3
      have hl' := Rp.len (hrp cs h3)
      refine ⟨wrL cs k vs, Rp.ext hm.ext (hrp cs h3), fun j hj => ?_⟩
      have e0 : (σ.put bl (.cells (wr C (ob + a.toNat * Rp.sz α + k) vs) T0 (0, 0))).cell bl (ob + a.toNat * Rp.sz α + j) = (wr C (ob + a.toNat * Rp.sz α + k) vs)[ob + a.toNat * Rp.sz α + j]? := by
        show (World.put σ.w bl _).cell? _ = _
        simp only [World.cell?, World.put_at _ hb, Option.isSome_none, Bool.false_eq_true, if_false]
      have e1 : (wr cs.toArray k vs)[j]? = some (wrL cs k vs)[j] := by rw [wr_list]; simp
      rw [e0, ← e1]
      by_cases hj1 : j < k
      · rw [wr_lt _ _ _ _ (by omega), wr_lt _ _ _ _ hj1]
        have := h4 j (by omega)
        have e3 : σ.cell bl (ob + a.toNat * Rp.sz α + j) = C[ob + a.toNat * Rp.sz α + j]? := by
          show σ.w.cell? _ = _
          simp only [World.cell?, g3, Option.isSome_none, Bool.false_eq_true, if_false]
        rw [← e3, this]; simp
      · by_cases hj2 : j < k + vs.length
        · have e4 := wr_in vs C (ob + a.toNat * Rp.sz α + k) (j - k) (by omega) (by omega)
          have e5 := wr_in vs cs.toArray k (j - k) (by simp; omega) (by omega)
          rw [show ob + a.toNat * Rp.sz α + j = ob + a.toNat * Rp.sz α + k + (j - k) by omega, e4, ← e5]
          congr 1; omega
        · rw [wr_ge _ _ _ _ (by omega), wr_ge _ _ _ _ (by omega)]
          have := h4 j (by omega)
          have e3 : σ.cell bl (ob + a.toNat * Rp.sz α + j) = C[ob + a.toNat * Rp.sz α + j]? := by
            show σ.w.cell? _ = _
            simp only [World.cell?, g3, Option.isSome_none, Bool.false_eq_true, if_false]
          rw [← e3, this]; simp
    · rw [List.getElem_set_ne (by omega)]
      have hne : ∀ j, j < Rp.sz α → (wr C (ob + a.toNat * Rp.sz α + k) vs)[ob + i * Rp.sz α + j]? = C[ob + i * Rp.sz α + j]? := by
        intro j hj
        by_cases hlt' : i < a.toNat
        · have : (i + 1) * Rp.sz α ≤ a.toNat * Rp.sz α := Nat.mul_le_mul_right _ hlt'
          rw [Nat.add_mul] at this
          exact wr_lt _ _ _ _ (by omega)
        · have : (a.toNat + 1) * Rp.sz α ≤ i * Rp.sz α := Nat.mul_le_mul_right _ (by omega)
          rw [Nat.add_mul] at this
          exact wr_ge _ _ _ _ (by omega)
      exact (g7 i hi').put g3 g6 hne

/-- An array out of a slice. -/
theorem rv_arrPtr {k : Nat} {a0 : Addr} (hT : P.underlying T = some (.array k E)) (hx : ev n ρ x = .slice (some a0) m c) (hm : k ≤ m) :
    RunV P H n ρ ⟨dst, .sliceToArrayPointer T x, ty, pos, af, gd⟩ (.pointer (some a0)) := fun w _ => by
  have : ¬ m < k := by omega
  simp [execOp, hx, Instr.arrayAt, underlying, hT, this]
theorem RS.arr {el : Nat} {zs : List Int} (hR : RS el σ (Sl ad zs c) zs) (hp : 0 < zs.length) : ∃ bl o, ad = some ⟨bl, o, none⟩ ∧ ∀ j, (hj : j < zs.length) → HCell σ.w.heap bl (o + j) = some (I zs[j]) := by
  rcases hR with ⟨_, rfl⟩ | ⟨bl, o, c2, hv, _, _, _, hA⟩
  · simp at hp
  · cases hv
    refine ⟨bl, o, rfl, fun j hj => ?_⟩
    have := (hA j hj).int
    simpa [Rp.sz] using this
end
end Go.Vs
