/- More steps: append, literals, make, parts, stores into the call's own slices, arrays. -/
import Derived.Test.YtcgkbgidfilodaaVsSl
set_option linter.unusedVariables false
set_option linter.unusedSimpArgs false
namespace Go.Vs
open Go

section
variable {P : Program} {ops : Array Oper} {Q : Exit → Act → World → Prop} {n d : Nat} {ρ : Nat → Value} {σ : St} {u v : Value} {rest : List Oper}
variable {ty T T' E E' : TypeId} {pos : String} {af : Array Edge} {x y : Operand} {a b : Int} {α : Type} [Rp α] {xs ys : List α} {z : Value} {s bt lo : Nat} {gd : Option (Nat × Bool)} {H : Array Obj} {dst : Option Nat}

/-- What append gives, as long as it is not too long. -/
def gapp {α : Type} (xs ys : List α) : Option (List α) := if xs.length + ys.length ≤ 2147483648 then some (xs ++ ys) else none
theorem gapp_some {α : Type} {xs ys r : List α} (h : gapp xs ys = some r) : xs.length + ys.length ≤ 2147483648 ∧ r = xs ++ ys := by
  unfold gapp at h
  split at h
  · exact ⟨by assumption, (Option.some.inj h).symm⟩
  · cases h

theorem st_append {el : Nat} {r : List α} (hT : P.underlying T = some (.slice E)) (hT' : P.underlying T' = some (.slice E')) (hi : TI P E z s bt) (hs : s = Rp.sz α) (hzs : z.cells.size = s) (hbt : bt ≤ 1024)
    (hO : Ow σ lo el v xs) (hS : Rd el σ u ys) (hr : gapp xs ys = some r) (hlo : lo ≤ σ.size) (hx : ev n ρ x = v) (hy : ev n ρ y = u)
    (k : ∀ a' c' (σ' : St), Mod (blk v) σ σ' → Ow σ' lo el (Sl a' r c') r → (blk (Sl a' r c') = blk v ∨ ∀ b, blk (Sl a' r c') = some b → σ.size ≤ b) → wpList P ops Q rest (fr n (upd ρ d (Sl a' r c'))) σ'.w) (hw : Region.wanted ⟨some d, .call ⟨.builtin .append, #[x, y], #[T, T']⟩, ty, pos, af, gd⟩ (yv ops n ρ) = true) :
    wpList P ops Q (⟨some d, .call ⟨.builtin .append, #[x, y], #[T, T']⟩, ty, pos, af, gd⟩ :: rest) (fr n ρ) σ.w := by
  obtain ⟨hlen, rfl⟩ := gapp_some hr
  obtain ⟨a', c', σ', h1, h2, h3, h4, -⟩ := run_append (ty := ty) hT hT' hi hs hzs hbt hO hS hlen hlo
  refine st_w (w' := σ'.w) hw ?_ (k a' c' σ' h2 h3 h4)
  simp only [RunW, execOp, resolve, List.map_toArray, List.map_cons, List.map_nil, hx, hy, Sem.run_bind, Sem.run_pure, Result.andThen_ok, invoke, builtin, h1]

/-- Cells, element by element. -/
inductive Flat (el : Nat) (σ : St) : List Value → List α → Prop
  | nil : Flat el σ [] []
  | cons {c cs : List Value} {x : α} {xs : List α} : Rp.rp el σ c x → Flat el σ cs xs → Flat el σ (c ++ cs) (x :: xs)
theorem Flat.length {el : Nat} {cs : List Value} {xs : List α} (h : Flat el σ cs xs) : cs.length = xs.length * Rp.sz α := by
  induction h with
  | nil => simp
  | cons h1 h2 ih => rw [List.length_append, ih, Rp.len h1, List.length_cons, Nat.add_mul]; omega
theorem Flat.get {el : Nat} {cs : List Value} {xs : List α} (h : Flat el σ cs xs) : ∀ i, (hi : i < xs.length) → ∃ c, Rp.rp el σ c xs[i] ∧ ∀ j, (hj : j < c.length) → cs[i * Rp.sz α + j]? = some c[j] := by
  induction h with
  | nil => intro i hi; simp at hi
  | @cons c cs x xs h1 h2 ih =>
    intro i hi
    cases i with
    | zero =>
      refine ⟨c, h1, fun j hj => ?_⟩
      rw [Nat.zero_mul, Nat.zero_add, List.getElem?_append_left hj]
      simp [hj]
    | succ i =>
      obtain ⟨c', h3, h4⟩ := ih i (by simpa using hi)
      refine ⟨c', h3, fun j hj => ?_⟩
      have := Rp.len h1
      rw [List.getElem?_append_right (by rw [Nat.add_mul]; omega), show (i + 1) * Rp.sz α + j - c.length = i * Rp.sz α + j by rw [Nat.add_mul]; omega]
      exact h4 j hj
theorem Flat.ext {el : Nat} {σ' : St} {cs : List Value} {xs : List α} (h : Flat el σ cs xs) (hE : Ext σ σ') : Flat el σ' cs xs := by
  induction h with
  | nil => exact .nil
  | cons h1 h2 ih => exact .cons (Rp.ext hE h1) ih
/-- A box as a slice of the call's own. -/
theorem Bx.ow {el : Nat} {bl : Nat} {cs : List Value} (h : Bx σ bl cs) (hf : Flat el σ cs xs) (hlo : lo ≤ bl) : Ow σ lo el (Sl (some ⟨bl, 0, none⟩) xs xs.length) xs := by
  obtain ⟨T, h1, h2⟩ := h
  refine .inr ⟨bl, 0, xs.length, cs.toArray, T, rfl, hlo, h1, Nat.le_refl _, ?_, h2, fun i hi => ?_⟩
  · simp [hf.length]
  · obtain ⟨c, h3, h4⟩ := hf.get i hi
    exact At.ofCells h1 h3 (fun j hj => by simpa using h4 j hj)

theorem flat_ints {el : Nat} (xs : List Int) : Flat el σ (xs.map I) xs := by
  induction xs with
  | nil => exact .nil
  | cons x xs ih => exact Flat.cons (c := [I x]) rfl ih

/-- A literal of a slice. -/
theorem run_buildSlice {el : Nat} {len : Nat} {parts : Array (Nat × Operand)} {ps : List (Nat × Value)} {cs : List Value} (hT : P.underlying T = some (.slice E)) (hi : TI P E z s bt)
    (hbig : Nat.ble (len * s) 16777216 = true) (hp : parts.toList.map (fun p => (p.1, ev n ρ p.2)) = ps)
    (hfill : Instr.fill (fun i => some (i * s, s)) ((Array.range (len * s)).map (fun k => (if len * s = 0 then #[] else z.cells)[k % (if len * s = 0 then #[] else z.cells).size]!)) ps = some cs.toArray)
    (hf : Flat el σ cs xs) (hl : xs.length = len) (hlo : lo ≤ σ.size) :
    ∃ (b : Nat) (σ' : St), σ.size = b ∧ RunW P σ.w n ρ ⟨dst, .buildSlice T len parts, ty, pos, af, gd⟩ (Sl (some ⟨b, 0, none⟩) xs len) σ'.w ∧ Mod none σ σ' ∧ Ow σ' lo el (Sl (some ⟨b, 0, none⟩) xs len) xs := by
  have hbx : Bx (σ.new (.cells cs.toArray E (0, 0)) 0) σ.size cs := ⟨E, St.new_new _ _ _, St.new_vis _ _ _⟩
  have hm := σ.new_mod (.cells cs.toArray E (0, 0)) 0
  refine ⟨σ.size, σ.new (.cells cs.toArray E (0, 0)) 0, rfl, ?_, hm, by
    have := hbx.ow (hf.ext hm.ext) hlo
    rw [hl] at this; exact this⟩
  have hb : ¬ len * s > 2 ^ 24 := by
    have := Nat.le_of_ble_eq_true hbig
    have e : (2 : Nat) ^ 24 = 16777216 := by decide
    omega
  have key : (Instr.buildSlice T len ps.toArray).run P σ.w = .ok (.slice (some ⟨σ.size, 0, none⟩) len len) (σ.new (.cells cs.toArray E (0, 0)) 0).w := by
    by_cases h0 : len * s = 0
    · simp only [h0, if_true] at hfill
      have hb0 : ¬ (0 > 2 ^ 24) := by omega
      simp only [Instr.buildSlice, underlying, hT, Sem.run_bind, run_program, Result.andThen_ok, Sem.run_pure, run_typeInfo hi, hb0, if_false, h0, if_true, hfill, newRow, newObj, Sem.run]
      rfl
    · simp only [h0, if_false] at hfill
      simp only [Instr.buildSlice, underlying, hT, Sem.run_bind, run_program, Result.andThen_ok, Sem.run_pure, run_typeInfo hi, hb, if_false, h0, run_zero hi, hfill, newRow, newObj, Sem.run]
      rfl
  have hpp : (parts.map fun (i, x) => (i, ev n ρ x)) = ps.toArray := by rw [← hp, ← Array.toList_map]
  simp only [RunW, execOp, hpp, Sem.run_bind, key, Result.andThen_ok, Sem.run_pure, Sl, hl]
theorem st_buildSlice {el : Nat} {len : Nat} {parts : Array (Nat × Operand)} {ps : List (Nat × Value)} {cs : List Value} (hT : P.underlying T = some (.slice E)) (hi : TI P E z s bt)
    (hbig : Nat.ble (len * s) 16777216 = true) (hp : parts.toList.map (fun p => (p.1, ev n ρ p.2)) = ps)
    (hfill : Instr.fill (fun i => some (i * s, s)) ((Array.range (len * s)).map (fun k => (if len * s = 0 then #[] else z.cells)[k % (if len * s = 0 then #[] else z.cells).size]!)) ps = some cs.toArray)
    (hf : Flat el σ cs xs) (hl : xs.length = len)
    (k : ∀ (b : Nat) (σ' : St), σ.size = b → Mod none σ σ' → Ow σ' lo el (Sl (some ⟨b, 0, none⟩) xs len) xs → wpList P ops Q rest (fr n (upd ρ d (Sl (some ⟨b, 0, none⟩) xs len))) σ'.w) (hlo : lo ≤ σ.size) (hw : Region.wanted ⟨some d, .buildSlice T len parts, ty, pos, af, gd⟩ (yv ops n ρ) = true) :
    wpList P ops Q (⟨some d, .buildSlice T len parts, ty, pos, af, gd⟩ :: rest) (fr n ρ) σ.w := by
  obtain ⟨b, σ', hb, hr, hm, hO⟩ := run_buildSlice (dst := some d) (ty := ty) (pos := pos) (af := af) (gd := gd) hT hi hbig hp hfill hf hl hlo
  exact st_w hw hr (k b σ' hb hm hO)

/-- make: so many zeros. -/
def gmake {α : Type} (k : Int) (z0 : α) : Option (List α) := if 0 ≤ k ∧ k ≤ 2147483648 then some (List.replicate k.toNat z0) else none

theorem zeros_get {zc : Array Value} {m i j : Nat} (hi : i < m) (hj : j < zc.size) :
    ((Array.range (m * zc.size)).map (fun k => zc[k % zc.size]!))[i * zc.size + j]? = zc[j]? := by
  have h : (i + 1) * zc.size ≤ m * zc.size := Nat.mul_le_mul_right _ hi
  rw [Nat.add_mul] at h
  rw [Array.getElem?_map, Array.getElem?_range, if_pos (by omega)]
  simp only [Option.map_some]
  have : (i * zc.size + j) % zc.size = j := by rw [Nat.mul_comm, Nat.mul_add_mod, Nat.mod_eq_of_lt hj]
  rw [this, getElem!_pos zc j hj, Array.getElem?_eq_getElem hj]

theorem run_make {el : Nat} {z0 : α} {zs : List Value} (hT : P.underlying T = some (.slice E)) (hi : TI P E z s bt) (hs : s = Rp.sz α) (hzc : z.cells = zs.toArray) (hz : Rp.rp el σ zs z0) (hbt : bt ≤ 1024)
    (hr : gmake a z0 = some xs) (hx : ev n ρ x = I a) (hy : ev n ρ y = I a) (hlo : lo ≤ σ.size)
    : ∃ (b : Nat) (σ' : St) (c' : Nat), c' = a.toNat ∧ RunW P σ.w n ρ ⟨dst, .makeSlice T x y, ty, pos, af, gd⟩ (Sl (some ⟨b, 0, none⟩) xs c') σ'.w ∧ Mod none σ σ' ∧ Ow σ' lo el (Sl (some ⟨b, 0, none⟩) xs c') xs := by
  unfold gmake at hr
  split at hr
  case isFalse => cases hr
  rename_i h01
  obtain ⟨h0, h1⟩ := h01
  cases hr
  obtain ⟨i0, hi1, hi2, hi3, hbytes⟩ := hi.it
  have hti : ∀ w, (typeInfo E).run P w = .ok i0 w := by
    intro w; simp only [typeInfo, Sem.run_bind, run_program, Result.andThen_ok, hi1]; rfl
  have hsz : zs.length = Rp.sz α := Rp.len hz
  have hpos : 0 < Rp.sz α := Rp.pos
  let C : Array Value := (Array.range (a.toNat * s)).map (fun k => (if a.toNat * s = 0 then #[] else z.cells)[k % (if a.toNat * s = 0 then #[] else z.cells).size]!)
  have hroom : (askRoom (a.toNat * bt)).run P σ.w = .ok () σ.w := by unfold askRoom; split <;> rfl
  have hwr : IntKind.i64.wrap a = a := w64_id (by omega) (by omega)
  have htl : decide ((bt : Int) * a > 2 ^ 48) = false := by
    have h2 : (2 : Int) ^ 48 = 281474976710656 := by decide
    have : (bt : Int) * a ≤ 1024 * 2147483648 := Int.mul_le_mul (by omega) h1 h0 (by omega)
    simp only [decide_eq_false_iff_not]
    omega
  have hrun : (Instr.makeSlice T (I a) (I a)).run P σ.w = .ok (.slice (some ⟨σ.size, 0, none⟩) a.toNat a.toNat) (σ.new (.cells C E (0, 0)) 0).w := by
    have hlt : (decide (a < 0)) = false := by simp; omega
    have hgt : (decide (a > a)) = false := by simp
    by_cases h00 : a.toNat * s = 0
    · simp only [Instr.makeSlice, underlying, hT, Sem.run_bind, run_program, Result.andThen_ok, Sem.run_pure, asInt, asIntOf, hti, hbytes, hwr, htl, hlt, hgt, Bool.or_self, Bool.false_eq_true, if_false, hroom, run_typeInfo hi, h00, if_true, newRow, newObj, Sem.run, C]
      rfl
    · simp only [Instr.makeSlice, underlying, hT, Sem.run_bind, run_program, Result.andThen_ok, Sem.run_pure, asInt, asIntOf, hti, hbytes, hwr, htl, hlt, hgt, Bool.or_self, Bool.false_eq_true, if_false, hroom, run_typeInfo hi, h00, run_zero hi, newRow, newObj, Sem.run, C]
      rfl
  have hnew := σ.new_new (.cells C E (0, 0)) 0
  have hm := σ.new_mod (.cells C E (0, 0)) 0
  have hlen : (List.replicate a.toNat z0).length = a.toNat := List.length_replicate
  refine ⟨σ.size, σ.new (.cells C E (0, 0)) 0, a.toNat, rfl, ?_, hm, .inr ⟨σ.size, 0, a.toNat, C, E, rfl, hlo, hnew, by rw [hlen]; exact Nat.le_refl _, ?_, St.new_vis _ _ _, fun i hi' => ?_⟩⟩
  · simp only [RunW, execOp, hx, hy, Sem.run_bind, hrun, Result.andThen_ok, Sem.run_pure, Sl, hlen]
  · simp [C, hs]
  · rw [hlen] at hi'
    rw [List.getElem_replicate]
    refine At.ofCells hnew (Rp.ext hm.ext hz) (fun j hj => ?_)
    have hne : ¬ a.toNat * s = 0 := by
      have : 0 < a.toNat * s := Nat.mul_pos (by omega) (by omega)
      omega
    have hzsz : z.cells.size = s := by rw [hzc, hs]; simpa using hsz
    have hg := zeros_get (zc := z.cells) (m := a.toNat) (i := i) (j := j) hi' (by rw [hzsz, hs, ← hsz]; exact hj)
    simp only [C, hne, if_false, Nat.zero_add]
    rw [hzsz] at hg
    rw [hs] at hg ⊢
    simp only [hzsz, hs] at hg ⊢
    rw [hg, hzc]
    simp [hj]
end
end Go.Vs
