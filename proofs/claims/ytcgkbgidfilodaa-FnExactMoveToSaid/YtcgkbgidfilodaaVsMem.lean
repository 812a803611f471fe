/- Operations that turn the world: boxes, new slices, stores, append, calls. -/
import Derived.Test.YtcgkbgidfilodaaVsRep
import Derived.Laws.World
set_option linter.unusedVariables false
set_option linter.unusedSimpArgs false
namespace Go.Vs
open Go

/-- Blocks that were there, but S, are as they were. -/
structure Oth (S : Option Nat) (σ σ' : St) : Prop where
  block : ∀ b, b < σ.size → S ≠ some b → σ'.w.heap[b]? = σ.w.heap[b]?
  vis : ∀ b, b < σ.size → S ≠ some b → σ'.vis b = σ.vis b

/-- The streams are as they were; what was published reads as it did; of the blocks that were there at most S has turned. -/
structure Mod (S : Option Nat) (σ σ' : St) : Prop where
  os : σ'.w.os = σ.w.os
  tape : σ'.w.tape = σ.w.tape
  output : σ'.w.output = σ.w.output
  dr : σ.w.drawn ≤ σ'.w.drawn
  ext : Ext σ σ'
  oth : Oth S σ σ'
theorem Mod.refl (S : Option Nat) (σ : St) : Mod S σ σ := ⟨rfl, rfl, rfl, Nat.le_refl _, Ext.refl _, ⟨fun _ _ _ => rfl, fun _ _ _ => rfl⟩⟩
theorem Mod.size {S : Option Nat} {σ σ' : St} (h : Mod S σ σ') : σ.size ≤ σ'.size := h.ext.size
theorem Mod.trans {S : Option Nat} {a b c : St} (h : Mod S a b) (k : Mod S b c) : Mod S a c :=
  ⟨k.os.trans h.os, k.tape.trans h.tape, k.output.trans h.output, Nat.le_trans h.dr k.dr, h.ext.trans k.ext, fun i hi hne => (k.oth.block i (Nat.lt_of_lt_of_le hi h.size) hne).trans (h.oth.block i hi hne),
    fun i hi hne => (k.oth.vis i (Nat.lt_of_lt_of_le hi h.size) hne).trans (h.oth.vis i hi hne)⟩
/-- What is done to blocks that were not there when the function began does not count. -/
theorem Mod.step {S S' : Option Nat} {a b c : St} (h : Mod S a b) (k : Mod S' b c) (hs : S' = none ∨ S' = S ∨ ∀ i, S' = some i → a.size ≤ i) : Mod S a c := by
  have key : ∀ i, i < a.size → S ≠ some i → S' ≠ some i := by
    intro i hi hne
    rcases hs with rfl | rfl | hs
    · simp
    · exact hne
    · intro e; have := hs i e; omega
  exact ⟨k.os.trans h.os, k.tape.trans h.tape, k.output.trans h.output, Nat.le_trans h.dr k.dr, h.ext.trans k.ext,
    fun i hi hne => (k.oth.block i (Nat.lt_of_lt_of_le hi h.size) (key i hi hne)).trans (h.oth.block i hi hne),
    fun i hi hne => (k.oth.vis i (Nat.lt_of_lt_of_le hi h.size) (key i hi hne)).trans (h.oth.vis i hi hne)⟩
theorem Mod.none {S : Option Nat} {a b c : St} (h : Mod S a b) (k : Mod .none b c) : Mod S a c := h.step k (.inl rfl)
theorem Mod.some {S : Option Nat} {a b c : St} {i : Nat} (h : Mod S a b) (k : Mod (some i) b c) (hi : a.size ≤ i) : Mod S a c := h.step k (.inr (.inr (by rintro j ⟨⟩; exact hi)))
theorem Keep.mod {σ σ' : St} (h : Keep σ.size σ σ') (S : Option Nat) : Mod S σ σ' := ⟨h.os, h.tape, h.output, h.dr, h.ext, fun b hb _ => h.block b hb, fun b hb _ => h.vis b hb⟩

theorem Keep.oth {σ σ' : St} (h : Keep σ.size σ σ') (S : Option Nat) : Oth S σ σ' := ⟨fun b hb _ => h.block b hb, fun b hb _ => h.vis b hb⟩

theorem At.same {el : Nat} {α : Type} [Rp α] {σ σ' : St} {b o : Nat} {x : α} (h : At el σ b o x) (hE : Ext σ σ') (hb : σ'.w.heap[b]? = σ.w.heap[b]?) : At el σ' b o x := by
  obtain ⟨cs, h1, h2⟩ := h
  exact ⟨cs, Rp.ext hE h1, fun j hj => by rw [show σ'.cell b (o + j) = σ.cell b (o + j) from cell_of_block hb _]; exact h2 j hj⟩

theorem lt_of_block {w : World} {b : Nat} {o : Obj} (h : w.heap[b]? = some o) : b < w.heap.size := (Array.getElem?_eq_some_iff.1 h).1

/-- A box: a block of its own whose cells are these. -/
def Bx (σ : St) (b : Nat) (cs : List Value) : Prop := ∃ T, σ.w.heap[b]? = some (.cells cs.toArray T (0, 0)) ∧ σ.vis b = 0

theorem Bx.lt {σ : St} {b : Nat} {cs : List Value} (h : Bx σ b cs) : b < σ.size := lt_of_block h.choose_spec.1
theorem Ow.lt {el : Nat} {α : Type} [Rp α] {σ : St} {lo : Nat} {v : Value} {xs : List α} (h : Ow σ lo el v xs) : ∀ b, blk v = some b → b < σ.size := by
  rcases h with ⟨rfl, _⟩ | ⟨b, o, c, C, T, rfl, h2, h3, _⟩
  · intro b h; cases h
  · intro b' h; cases h; exact lt_of_block h3
theorem Ow.ge {el : Nat} {α : Type} [Rp α] {σ : St} {lo : Nat} {v : Value} {xs : List α} (h : Ow σ lo el v xs) : ∀ b, blk v = some b → lo ≤ b := by
  rcases h with ⟨rfl, _⟩ | ⟨b, o, c, C, T, rfl, h2, h3, _⟩
  · intro b h; cases h
  · intro b' h; cases h; exact h2
theorem Ow.ne {el : Nat} {α : Type} [Rp α] {σ : St} {lo : Nat} {v : Value} {xs : List α} (h : Ow σ lo el v xs) {b : Nat} (hb : σ.size ≤ b) : blk v ≠ some b :=
  fun e => absurd (h.lt b e) (Nat.not_lt.2 hb)
theorem Ow.ne' {el : Nat} {α : Type} [Rp α] {σ : St} {lo : Nat} {v : Value} {xs : List α} (h : Ow σ lo el v xs) {b : Nat} (hb : b < lo) : blk v ≠ some b :=
  fun e => absurd (h.ge b e) (Nat.not_le.2 hb)
theorem Ow.lo {el : Nat} {α : Type} [Rp α] {σ : St} {lo lo' : Nat} {v : Value} {xs : List α} (h : Ow σ lo el v xs) (hl : lo' ≤ lo) : Ow σ lo' el v xs := by
  rcases h with h | ⟨b, o, c, C, T, h1, h2, h3⟩
  · exact .inl h
  · exact .inr ⟨b, o, c, C, T, h1, Nat.le_trans hl h2, h3⟩

theorem Bx.oth {σ σ' : St} {b : Nat} {cs : List Value} {S : Option Nat} (h : Bx σ b cs) (hO : Oth S σ σ') (hne : S ≠ some b) : Bx σ' b cs := by
  have hl := h.lt
  obtain ⟨T, h1, h2⟩ := h
  exact ⟨T, (hO.block b hl hne).trans h1, (hO.vis b hl hne).trans h2⟩
theorem Bx.keep {σ σ' : St} {b : Nat} {cs : List Value} (h : Bx σ b cs) (hk : Keep σ.size σ σ') : Bx σ' b cs := h.oth (hk.oth none) (by simp)
theorem Ow.oth {el : Nat} {α : Type} [Rp α] {σ σ' : St} {lo : Nat} {v : Value} {xs : List α} {S : Option Nat} (h : Ow σ lo el v xs) (hE : Ext σ σ') (hO : Oth S σ σ') (hne : S = none ∨ blk v ≠ S) : Ow σ' lo el v xs := by
  have hl := h.lt
  rcases h with h | ⟨b, o, c, C, T, rfl, h2, h3, h4, h5, h6, h7⟩
  · exact .inl h
  · have hb : b < σ.size := hl b rfl
    have hS : S ≠ some b := by
      rcases hne with rfl | h
      · simp
      · exact fun e => h e.symm
    have e1 := hO.block b hb hS
    exact .inr ⟨b, o, c, C, T, rfl, h2, e1.trans h3, h4, h5, (hO.vis b hb hS).trans h6, fun i hi => (h7 i hi).same hE e1⟩
theorem Ow.keep {el : Nat} {α : Type} [Rp α] {σ σ' : St} {lo : Nat} {v : Value} {xs : List α} (h : Ow σ lo el v xs) (hk : Keep σ.size σ σ') : Ow σ' lo el v xs := h.oth hk.ext (hk.oth none) (.inl rfl)
theorem Rd.keep {el : Nat} {α : Type} [Rp α] {σ σ' : St} {lo : Nat} {v : Value} {xs : List α} (h : Ow σ lo el v xs) (hk : Keep σ.size σ σ') : Rd el σ' v xs := (h.keep hk).rd

theorem RS.mod {el : Nat} {α : Type} [Rp α] {σ σ' : St} {v : Value} {xs : List α} {S : Option Nat} (h : RS el σ v xs) (m : Mod S σ σ') : RS el σ' v xs := h.ext m.ext
theorem Ow.mod {el : Nat} {α : Type} [Rp α] {σ σ' : St} {lo : Nat} {v : Value} {xs : List α} {S : Option Nat} (h : Ow σ lo el v xs) (m : Mod S σ σ') (hne : blk v ≠ S) : Ow σ' lo el v xs := h.oth m.ext m.oth (.inr hne)
theorem Ow.mod0 {el : Nat} {α : Type} [Rp α] {σ σ' : St} {lo : Nat} {v : Value} {xs : List α} (h : Ow σ lo el v xs) (m : Mod none σ σ') : Ow σ' lo el v xs := h.oth m.ext m.oth (.inl rfl)
theorem Bx.mod {σ σ' : St} {b : Nat} {cs : List Value} {S : Option Nat} (h : Bx σ b cs) (m : Mod S σ σ') (hne : S ≠ some b) : Bx σ' b cs := h.oth m.oth hne
theorem Bx.mod0 {σ σ' : St} {b : Nat} {cs : List Value} (h : Bx σ b cs) (m : Mod none σ σ') : Bx σ' b cs := h.oth m.oth (by simp)

/-- A cell of a box. -/
theorem Bx.cell {σ : St} {b : Nat} {cs : List Value} (h : Bx σ b cs) (k : Nat) {v : Value} (hv : cs[k]? = some v) : HCell σ.w.heap b (0 + k) = some v := by
  obtain ⟨T, h1, _⟩ := h
  unfold HCell
  rw [h1]; simpa using hv
theorem Bx.cell' {σ : St} {b o : Nat} {cs : List Value} (h : Bx σ b cs) (k : Nat) {v : Value} (hv : cs[k]? = some v) (ho : o = k) : HCell σ.w.heap b o = some v := by
  subst ho; have := h.cell o hv; simpa using this
theorem Bx.all {σ : St} {b : Nat} {cs : List Value} (h : Bx σ b cs) : ∀ j, (hj : j < cs.length) → HCell σ.w.heap b (0 + j) = some cs[j] := fun j hj =>
  h.cell j (List.getElem?_eq_some_iff.2 ⟨hj, rfl⟩)

/-! ## New blocks -/
def World.mk' (w : World) (o : Obj) (k : Nat) : World := { w with heap := w.heap.push o, drawn := w.drawn + k }

/-- The world after a new block. -/
def St.new (σ : St) (o : Obj) (k : Nat) : St := ⟨World.mk' σ.w o k, σ.vis, fun b hb => σ.ok b (by
  have : (σ.w.heap.push o).size ≤ b := hb
  rw [Array.size_push] at this; omega)⟩

theorem St.new_size (σ : St) (o : Obj) (k : Nat) : (σ.new o k).size = σ.size + 1 := by show (σ.w.heap.push o).size = _; simp
theorem St.new_old (σ : St) (o : Obj) (k b : Nat) (h : b < σ.size) : (σ.new o k).w.heap[b]? = σ.w.heap[b]? := by
  show (σ.w.heap.push o)[b]? = _
  rw [Array.getElem?_push, if_neg (by have : b < σ.w.heap.size := h; omega)]
theorem St.new_new (σ : St) (o : Obj) (k : Nat) : (σ.new o k).w.heap[σ.size]? = some o := by
  show (σ.w.heap.push o)[σ.w.heap.size]? = _
  simp
theorem St.new_keep (σ : St) (o : Obj) (k : Nat) : Keep σ.size σ (σ.new o k) :=
  ⟨rfl, rfl, rfl, Nat.le_add_right _ _, by rw [St.new_size]; omega, fun b hb => σ.new_old o k b hb, fun _ _ => rfl⟩
theorem St.new_mod (σ : St) (o : Obj) (k : Nat) : Mod none σ (σ.new o k) := (St.new_keep σ o k).mod none
theorem St.new_vis (σ : St) (o : Obj) (k : Nat) : (σ.new o k).vis σ.size = 0 := σ.ok _ (Nat.le_refl _)

/-! ## Stores -/
def wr (C : Array Value) (k : Nat) : List Value → Array Value
  | [] => C
  | v :: r => wr (C.setIfInBounds k v) (k + 1) r
theorem wr_size (vs : List Value) : ∀ (C : Array Value) (k : Nat), (wr C k vs).size = C.size := by
  induction vs with
  | nil => intro C k; rfl
  | cons v r ih => intro C k; rw [wr, ih]; simp
theorem wr_lt (vs : List Value) : ∀ (C : Array Value) (k j : Nat), j < k → (wr C k vs)[j]? = C[j]? := by
  induction vs with
  | nil => intro C k j _; rfl
  | cons v r ih =>
    intro C k j h
    rw [wr, ih _ _ _ (by omega), Array.getElem?_setIfInBounds, if_neg (by omega)]
theorem wr_ge (vs : List Value) : ∀ (C : Array Value) (k j : Nat), k + vs.length ≤ j → (wr C k vs)[j]? = C[j]? := by
  induction vs with
  | nil => intro C k j _; rfl
  | cons v r ih =>
    intro C k j h
    simp only [List.length_cons] at h
    rw [wr, ih _ _ _ (by omega), Array.getElem?_setIfInBounds, if_neg (by omega)]
theorem wr_in (vs : List Value) : ∀ (C : Array Value) (k j : Nat), k + vs.length ≤ C.size → (h : j < vs.length) → (wr C k vs)[k + j]? = some vs[j] := by
  induction vs with
  | nil => intro C k j _ h; simp at h
  | cons v r ih =>
    intro C k j hs h
    simp only [List.length_cons] at hs h
    cases j with
    | zero =>
      rw [wr, wr_lt _ _ _ _ (by omega), Array.getElem?_setIfInBounds, if_pos (by omega), if_pos (by omega)]
      rfl
    | succ j =>
      have := ih (C.setIfInBounds k v) (k + 1) j (by simp; omega) (by omega)
      rw [wr, show k + (j + 1) = k + 1 + j by omega, this]
      rfl

def World.put (w : World) (b : Nat) (o : Obj) : World := { w with heap := w.heap.setIfInBounds b o }
theorem World.put_self {w : World} {b : Nat} {o : Obj} (h : w.heap[b]? = some o) : World.put w b o = w := by
  obtain ⟨hb, e⟩ := Array.getElem?_eq_some_iff.1 h
  unfold World.put
  have : w.heap.setIfInBounds b o = w.heap := by
    apply Array.ext_getElem?
    intro i
    rw [Array.getElem?_setIfInBounds]
    split
    · rename_i hi; subst hi; rw [h]
    · rfl
  rw [this]
theorem World.put_at {w : World} {b : Nat} (o : Obj) (h : b < w.heap.size) : (World.put w b o).heap[b]? = some o := by
  show (w.heap.setIfInBounds b o)[b]? = _
  rw [Array.getElem?_setIfInBounds, if_pos rfl, if_pos h]
theorem World.put_ne {w : World} {b c : Nat} (o : Obj) (h : b ≠ c) : (World.put w b o).heap[c]? = w.heap[c]? := by
  show (w.heap.setIfInBounds b o)[c]? = _
  rw [Array.getElem?_setIfInBounds, if_neg h]
theorem World.put_put (w : World) (b : Nat) (o o' : Obj) : World.put (World.put w b o) b o' = World.put w b o' := by
  unfold World.put
  have : (w.heap.setIfInBounds b o).setIfInBounds b o' = w.heap.setIfInBounds b o' := by
    apply Array.ext_getElem?
    intro i
    simp only [Array.getElem?_setIfInBounds, Array.size_setIfInBounds]
    split
    · rfl
    · rfl
  rw [this]
theorem World.put_size (w : World) (b : Nat) (o : Obj) : (World.put w b o).heap.size = w.heap.size := by
  show (w.heap.setIfInBounds b o).size = _
  simp

theorem setCell_put {w : World} {b k : Nat} {C : Array Value} {T : TypeId} (h : w.heap[b]? = some (.cells C T (0, 0))) (v : Value) :
    w.setCell ⟨b, k, none⟩ v = World.put w b (.cells (C.setIfInBounds k v) T (0, 0)) := by
  obtain ⟨hb, e⟩ := Array.getElem?_eq_some_iff.1 h
  unfold World.setCell World.put
  simp only [Option.isSome_none, Bool.false_eq_true, if_false]
  congr 1
  apply Array.ext_getElem?
  intro i
  rw [Array.getElem?_modify, Array.getElem?_setIfInBounds]
  split
  · rename_i hi; subst hi; rw [h]; simp
  · rfl

theorem run_storeCells {P : Program} (b o : Nat) (T : TypeId) : ∀ (vs : List Value) (i : Nat) (w : World) (C : Array Value), w.heap[b]? = some (.cells C T (0, 0)) →
    o + i + vs.length ≤ C.size → (∀ v ∈ vs, plain v = true) →
    (storeCells ⟨b, o, none⟩ vs i).run P w = .ok () (World.put w b (.cells (wr C (o + i) vs) T (0, 0)))
  | [], i, w, C, h, _, _ => by
    simp only [storeCells, wr, World.put_self h]; rfl
  | v :: r, i, w, C, h, hs, hp => by
    simp only [List.length_cons] at hs
    have hv := hp v (by simp)
    have hb := lt_of_block h
    have hc : w.cell? ⟨b, o + i, none⟩ = C[o + i]? := by simp [World.cell?, h]
    have hc' : C[o + i]? = some C[o + i] := by rw [Array.getElem?_eq_some_iff]; exact ⟨by omega, rfl⟩
    have hf : w.frozen? ⟨b, o + i, none⟩ = false := by simp [World.frozen?, h]
    have ih := run_storeCells (P := P) b o T r (i + 1) (World.put w b (.cells (C.setIfInBounds (o + i) v) T (0, 0))) (C.setIfInBounds (o + i) v)
      (World.put_at _ hb) (by simp; omega) (fun u hu => hp u (by simp [hu]))
    have hrun : (store ((⟨b, o, none⟩ : Addr).add i) v).run P w = .ok () (World.put w b (.cells (C.setIfInBounds (o + i) v) T (0, 0))) := by
      rw [add_plain]
      cases v <;> first | (simp [plain] at hv; done) | (simp only [store, Sem.run, hc, hc', hf, setCell_put h]; rfl)
    simp only [storeCells, Sem.run_bind, hrun, Result.andThen_ok, ih, World.put_put]
    rw [wr]; rfl

/-- The world after a store into a block of the call's own. -/
def St.put (σ : St) (b : Nat) (o : Obj) : St := ⟨World.put σ.w b o, σ.vis, fun c hc => σ.ok c (by rw [World.put_size] at hc; exact hc)⟩
theorem St.put_ext {σ : St} {b : Nat} {o : Obj} (h : σ.vis b = 0) : Ext σ (σ.put b o) := by
  refine ⟨Nat.le_of_eq (World.put_size _ _ _).symm, fun c k hk => ?_, fun _ => Nat.le_refl _⟩
  by_cases hc : b = c
  · subst hc; rw [h] at hk; exact absurd hk (Nat.not_lt_zero _)
  · exact cell_of_block (World.put_ne o hc) k
theorem St.put_keep {σ : St} {b lo : Nat} {o : Obj} (h : lo ≤ b) : Keep lo σ (σ.put b o) :=
  ⟨rfl, rfl, rfl, Nat.le_refl _, Nat.le_of_eq (World.put_size _ _ _).symm, fun c hc => World.put_ne o (by omega), fun _ _ => rfl⟩
theorem St.put_oth {σ : St} {b : Nat} {o : Obj} : Oth (some b) σ (σ.put b o) :=
  ⟨fun c _ hne => World.put_ne o (fun e => hne (by rw [e])), fun _ _ _ => rfl⟩

theorem St.put_mod {σ : St} {b : Nat} {o : Obj} (h : σ.vis b = 0) : Mod (some b) σ (σ.put b o) := ⟨rfl, rfl, rfl, Nat.le_refl _, St.put_ext h, St.put_oth⟩

/-! ## Publishing -/
def St.pub (σ : St) (b e : Nat) (hb : b < σ.size) : St := ⟨σ.w, fun c => if c = b then max (σ.vis b) e else σ.vis c, fun c hc => by
  rw [if_neg (by have : σ.size ≤ c := hc; omega)]; exact σ.ok c hc⟩
theorem St.pub_ext {σ : St} {b e : Nat} (hb : b < σ.size) : Ext σ (σ.pub b e hb) := by
  refine ⟨Nat.le_refl _, fun _ _ _ => rfl, fun c => ?_⟩
  show _ ≤ (if c = b then max (σ.vis b) e else σ.vis c)
  split
  · rename_i h; subst h; omega
  · exact Nat.le_refl _
end Go.Vs
