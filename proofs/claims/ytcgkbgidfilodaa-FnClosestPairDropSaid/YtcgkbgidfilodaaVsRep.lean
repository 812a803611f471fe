/- What memory represents: a class of the types of data; slices that are published, slices that are the call's own, boxes. -/
import Derived.Test.YtcgkbgidfilodaaVsOps
set_option linter.unusedVariables false
set_option linter.unusedSimpArgs false
namespace Go.Vs
open Go

/-- The value of one cell. -/
def plain : Value → Bool
  | .agg _ | .tuple _ => false
  | _ => true

/-- From block lo on, what was published reads as it did. -/
structure ExtL (lo : Nat) (σ σ' : St) : Prop where
  cell : ∀ b o, lo ≤ b → o < σ.vis b → σ'.cell b o = σ.cell b o
  vis : ∀ b, lo ≤ b → σ.vis b ≤ σ'.vis b
theorem Ext.extL {σ σ' : St} (h : Ext σ σ') (lo : Nat) : ExtL lo σ σ' := ⟨fun b o _ ho => h.cell b o ho, fun b _ => h.vis b⟩

/-- What cells represent; all memory that is reached from them lies from block lo on. -/
class Rp (α : Type) where
  sz : Nat
  rp : Nat → St → List Value → α → Prop
  pos : 0 < sz
  len : ∀ {lo : Nat} {σ : St} {cs : List Value} {x : α}, rp lo σ cs x → cs.length = sz
  extL : ∀ {lo : Nat} {σ σ' : St} {cs : List Value} {x : α}, ExtL lo σ σ' → rp lo σ cs x → rp lo σ' cs x
  low : ∀ {lo lo' : Nat} {σ : St} {cs : List Value} {x : α}, lo' ≤ lo → rp lo σ cs x → rp lo' σ cs x
  one : ∀ {lo : Nat} {σ : St} {cs : List Value} {x : α}, rp lo σ cs x → ∀ c ∈ cs, plain c = true
theorem Rp.ext {α : Type} [Rp α] {lo : Nat} {σ σ' : St} {cs : List Value} {x : α} (hE : Ext σ σ') (h : Rp.rp lo σ cs x) : Rp.rp lo σ' cs x := Rp.extL (hE.extL lo) h

instance : Rp Int where
  sz := 1
  rp _ _ cs x := cs = [I x]
  pos := by decide
  len := by rintro _ _ _ _ rfl; rfl
  extL := fun _ h => h
  low := fun _ h => h
  one := by rintro _ _ _ _ rfl; simp [plain]
instance : Rp Bool where
  sz := 1
  rp _ _ cs x := cs = [B x]
  pos := by decide
  len := by rintro _ _ _ _ rfl; rfl
  extL := fun _ h => h
  low := fun _ h => h
  one := by rintro _ _ _ _ rfl; simp [plain]
instance : Rp UInt8 where
  sz := 1
  rp _ _ cs x := cs = [.int .u8 x.toNat]
  pos := by decide
  len := by rintro _ _ _ _ rfl; rfl
  extL := fun _ h => h
  low := fun _ h => h
  one := by rintro _ _ _ _ rfl; simp [plain]
instance : Rp ByteArray where
  sz := 1
  rp _ _ cs x := cs = [.string x]
  pos := by decide
  len := by rintro _ _ _ _ rfl; rfl
  extL := fun _ h => h
  low := fun _ h => h
  one := by rintro _ _ _ _ rfl; simp [plain]
instance {α β : Type} [Rp α] [Rp β] : Rp (α × β) where
  sz := Rp.sz α + Rp.sz β
  rp lo σ cs x := ∃ c1 c2, cs = c1 ++ c2 ∧ Rp.rp lo σ c1 x.1 ∧ Rp.rp lo σ c2 x.2
  pos := Nat.add_pos_left Rp.pos _
  len := by rintro _ _ _ _ ⟨c1, c2, rfl, h1, h2⟩; rw [List.length_append, Rp.len h1, Rp.len h2]
  extL := by rintro _ _ _ _ _ hE ⟨c1, c2, rfl, h1, h2⟩; exact ⟨c1, c2, rfl, Rp.extL hE h1, Rp.extL hE h2⟩
  low := by rintro _ _ _ _ _ hl ⟨c1, c2, rfl, h1, h2⟩; exact ⟨c1, c2, rfl, Rp.low hl h1, Rp.low hl h2⟩
  one := by
    rintro _ _ _ _ ⟨c1, c2, rfl, h1, h2⟩ c hc
    rcases List.mem_append.1 hc with h | h
    · exact Rp.one h1 c h
    · exact Rp.one h2 c h

section
variable {α β : Type} [Rp α] [Rp β]

/-- At this place memory represents x. -/
def At (el : Nat) (σ : St) (b o : Nat) (x : α) : Prop := ∃ cs, Rp.rp el σ cs x ∧ ∀ j, (h : j < cs.length) → σ.cell b (o + j) = some cs[j]
/-- .. and it is published. -/
def Seen (σ : St) (b e : Nat) : Prop := e ≤ σ.vis b

theorem At.ext {el : Nat} {σ σ' : St} {b o : Nat} {x : α} (h : At el σ b o x) (hs : o + Rp.sz α ≤ σ.vis b) (hE : Ext σ σ') : At el σ' b o x := by
  obtain ⟨cs, h1, h2⟩ := h
  refine ⟨cs, Rp.ext hE h1, fun j hj => ?_⟩
  have := Rp.len h1
  rw [hE.cell b (o + j) (by omega)]
  exact h2 j hj

theorem At.fst {el : Nat} {σ : St} {b o : Nat} {x : α × β} (h : At el σ b o x) : At el σ b o x.1 := by
  obtain ⟨cs, ⟨c1, c2, rfl, h1, h2⟩, h3⟩ := h
  refine ⟨c1, h1, fun j hj => ?_⟩
  rw [h3 j (by rw [List.length_append]; omega), List.getElem_append_left hj]
theorem At.snd {el : Nat} {σ : St} {b o : Nat} {x : α × β} (h : At el σ b o x) : At el σ b (o + Rp.sz α) x.2 := by
  obtain ⟨cs, ⟨c1, c2, rfl, h1, h2⟩, h3⟩ := h
  refine ⟨c2, h2, fun j hj => ?_⟩
  have hl := Rp.len h1
  have := h3 (c1.length + j) (by rw [List.length_append]; omega)
  rw [Nat.add_assoc, ← hl, this, List.getElem_append_right (by omega)]
  simp
theorem At.snd' {el : Nat} {σ : St} {b o k : Nat} {x : α × β} (h : At el σ b o x) (hk : k = o + Rp.sz α) : At el σ b k x.2 := hk ▸ h.snd

/-- A published slice. -/
def RS (el : Nat) (σ : St) (v : Value) (xs : List α) : Prop :=
  ((∃ ad c, v = .slice ad 0 c) ∧ xs = []) ∨ ∃ b o c, v = .slice (some ⟨b, o, none⟩) xs.length c ∧ el ≤ b ∧ xs.length ≤ c ∧ o + xs.length * Rp.sz α ≤ σ.vis b ∧
    ∀ i, (h : i < xs.length) → At el σ b (o + i * Rp.sz α) xs[i]

/-- A slice that can be read now. -/
def Rd (el : Nat) (σ : St) (v : Value) (xs : List α) : Prop :=
  ((∃ ad c, v = .slice ad 0 c) ∧ xs = []) ∨ ∃ b o c, v = .slice (some ⟨b, o, none⟩) xs.length c ∧ ∀ i, (h : i < xs.length) → At el σ b (o + i * Rp.sz α) xs[i]

/-- A slice that is the call's own: nobody else reads its block. -/
def Ow (σ : St) (lo el : Nat) (v : Value) (xs : List α) : Prop :=
  (v = .slice none 0 0 ∧ xs = []) ∨ ∃ b o c C T, v = .slice (some ⟨b, o, none⟩) xs.length c ∧ lo ≤ b ∧ σ.w.heap[b]? = some (.cells C T (0, 0)) ∧ xs.length ≤ c ∧
    o + c * Rp.sz α ≤ C.size ∧ σ.vis b = 0 ∧ ∀ i, (h : i < xs.length) → At el σ b (o + i * Rp.sz α) xs[i]

/-- The block of a slice. -/
def blk : Value → Option Nat
  | .slice (some a) _ _ => some a.block
  | _ => none

theorem RS.nil {el : Nat} {σ : St} : RS el σ (.slice none 0 0) ([] : List α) := .inl ⟨⟨_, _, rfl⟩, rfl⟩
theorem Ow.nil {el : Nat} {σ : St} {lo : Nat} : Ow σ lo el (.slice none 0 0) ([] : List α) := .inl ⟨rfl, rfl⟩
theorem RS.rd {el : Nat} {σ : St} {v : Value} {xs : List α} (h : RS el σ v xs) : Rd el σ v xs := by
  rcases h with h | ⟨b, o, c, h1, _, _, h2, h3⟩
  · exact .inl h
  · exact .inr ⟨b, o, c, h1, h3⟩
theorem Ow.rd {el : Nat} {σ : St} {lo : Nat} {v : Value} {xs : List α} (h : Ow σ lo el v xs) : Rd el σ v xs := by
  rcases h with h | ⟨b, o, c, C, T, h1, h2, h3, h4, h5, h6, h7⟩
  · exact .inl ⟨⟨_, _, h.1⟩, h.2⟩
  · exact .inr ⟨b, o, c, h1, h7⟩

theorem RS.ext {el : Nat} {σ σ' : St} {v : Value} {xs : List α} (h : RS el σ v xs) (hE : Ext σ σ') : RS el σ' v xs := by
  rcases h with h | ⟨b, o, c, h1, hb, hc, h2, h3⟩
  · exact .inl h
  · refine .inr ⟨b, o, c, h1, hb, hc, Nat.le_trans h2 (hE.vis b), fun i hi => (h3 i hi).ext ?_ hE⟩
    have : (i + 1) * Rp.sz α ≤ xs.length * Rp.sz α := Nat.mul_le_mul_right _ hi
    rw [Nat.add_mul] at this
    omega

/-- What is a slice of so many. -/
def IsSl (v : Value) (m : Nat) : Prop := ∃ ad c, v = .slice ad m c
theorem Rd.isSl {el : Nat} {σ : St} {v : Value} {xs : List α} (h : Rd el σ v xs) : IsSl v xs.length := by
  rcases h with ⟨⟨ad, c, rfl⟩, rfl⟩ | ⟨b, o, c, h1, _⟩
  · exact ⟨ad, c, rfl⟩
  · exact ⟨_, _, h1⟩
theorem RS.isSl {el : Nat} {σ : St} {v : Value} {xs : List α} (h : RS el σ v xs) : IsSl v xs.length := h.rd.isSl
theorem Ow.isSl {el : Nat} {σ : St} {lo : Nat} {v : Value} {xs : List α} (h : Ow σ lo el v xs) : IsSl v xs.length := h.rd.isSl

theorem RS.extL {el : Nat} {σ σ' : St} {v : Value} {xs : List α} (h : RS el σ v xs) (hE : ExtL el σ σ') : RS el σ' v xs := by
  rcases h with h | ⟨b, o, c, h1, hb, hc, h2, h3⟩
  · exact .inl h
  · refine .inr ⟨b, o, c, h1, hb, hc, Nat.le_trans h2 (hE.vis b hb), fun i hi => ?_⟩
    obtain ⟨cs, h4, h5⟩ := h3 i hi
    refine ⟨cs, Rp.extL hE h4, fun j hj => ?_⟩
    have : (i + 1) * Rp.sz α ≤ xs.length * Rp.sz α := Nat.mul_le_mul_right _ hi
    rw [Nat.add_mul] at this
    have hl := Rp.len h4
    rw [hE.cell b _ hb (by omega)]
    exact h5 j hj
theorem At.low {lo lo' : Nat} {σ : St} {b o : Nat} {x : α} (hl : lo' ≤ lo) (h : At lo σ b o x) : At lo' σ b o x := by
  obtain ⟨cs, h1, h2⟩ := h
  exact ⟨cs, Rp.low hl h1, h2⟩
theorem RS.low {lo lo' : Nat} {σ : St} {v : Value} {xs : List α} (h : RS lo σ v xs) (hl : lo' ≤ lo) : RS lo' σ v xs := by
  rcases h with h | ⟨b, o, c, h1, hb, hc, h2, h3⟩
  · exact .inl h
  · exact .inr ⟨b, o, c, h1, Nat.le_trans hl hb, hc, h2, fun i hi => (h3 i hi).low hl⟩

instance : Rp (List α) where
  sz := 1
  rp lo σ cs x := ∃ v, cs = [v] ∧ RS lo σ v x
  pos := by decide
  len := by rintro _ _ _ _ ⟨v, rfl, _⟩; rfl
  extL := by rintro _ _ _ _ _ hE ⟨v, rfl, h⟩; exact ⟨v, rfl, h.extL hE⟩
  low := by rintro _ _ _ _ _ hl ⟨v, rfl, h⟩; exact ⟨v, rfl, h.low hl⟩
  one := by
    rintro _ _ _ _ ⟨v, rfl, h⟩ c hc
    obtain ⟨ad, cp, hv⟩ := h.isSl
    simp only [List.mem_singleton] at hc
    rw [hc, hv]; rfl

omit [Rp α] in
/-- Elements. -/
theorem List.some_lt {xs : List α} {i : Nat} {e : α} (h : xs[i]? = some e) : i < xs.length := (List.getElem?_eq_some_iff.1 h).1
/-- The element at an index, if there is one. -/
def gidx {α : Type} (xs : List α) (a : Int) : Option α := if 0 ≤ a then xs[a.toNat]? else none
omit [Rp α] in
theorem gidx_some {xs : List α} {a : Int} {e : α} (h : gidx xs a = some e) : 0 ≤ a ∧ ∃ h : a.toNat < xs.length, xs[a.toNat] = e := by
  unfold gidx at h
  split at h
  · rename_i h0
    obtain ⟨h1, h2⟩ := List.getElem?_eq_some_iff.1 h
    exact ⟨h0, h1, h2⟩
  · cases h

/-- Where the element lies. -/
structure Ix (v : Value) (a : Int) (s b o : Nat) : Prop where
  it : ∃ ob m c, v = .slice (some ⟨b, ob, none⟩) m c ∧ 0 ≤ a ∧ a.toNat < m ∧ o = ob + a.toNat * s
theorem Rd.ix {el : Nat} {σ : St} {v : Value} {xs : List α} {a : Int} {e : α} (h : Rd el σ v xs) (hg : gidx xs a = some e) : ∃ b o, Ix v a (Rp.sz α) b o ∧ At el σ b o e := by
  obtain ⟨h0, h1, h2⟩ := gidx_some hg
  rcases h with ⟨_, rfl⟩ | ⟨b, o, c, hv, hc⟩
  · simp at h1
  · exact ⟨b, o + a.toNat * Rp.sz α, ⟨o, _, c, hv, h0, h1, rfl⟩, h2 ▸ hc _ h1⟩
theorem RS.ix {el : Nat} {σ : St} {v : Value} {xs : List α} {a : Int} {e : α} (h : RS el σ v xs) (hg : gidx xs a = some e) : ∃ b o, Ix v a (Rp.sz α) b o ∧ At el σ b o e := h.rd.ix hg
theorem Ow.ix {el : Nat} {σ : St} {lo : Nat} {v : Value} {xs : List α} {a : Int} {e : α} (h : Ow σ lo el v xs) (hg : gidx xs a = some e) : ∃ b o, Ix v a (Rp.sz α) b o ∧ At el σ b o e := h.rd.ix hg

theorem At.int {el : Nat} {σ : St} {b o : Nat} {x : Int} (h : At el σ b o x) : HCell σ.w.heap b o = some (I x) := by
  obtain ⟨cs, rfl, h2⟩ := h
  rw [HCell_eq]; exact h2 0 (by simp)
theorem At.bool {el : Nat} {σ : St} {b o : Nat} {x : Bool} (h : At el σ b o x) : HCell σ.w.heap b o = some (B x) := by
  obtain ⟨cs, rfl, h2⟩ := h
  rw [HCell_eq]; exact h2 0 (by simp)
theorem At.byte {el : Nat} {σ : St} {b o : Nat} {x : UInt8} (h : At el σ b o x) : HCell σ.w.heap b o = some (.int .u8 x.toNat) := by
  obtain ⟨cs, rfl, h2⟩ := h
  rw [HCell_eq]; exact h2 0 (by simp)
theorem At.str {el : Nat} {σ : St} {b o : Nat} {x : ByteArray} (h : At el σ b o x) : HCell σ.w.heap b o = some (.string x) := by
  obtain ⟨cs, rfl, h2⟩ := h
  rw [HCell_eq]; exact h2 0 (by simp)
theorem At.slice {el : Nat} {σ : St} {b o : Nat} {xs : List α} (h : At el σ b o xs) : ∃ v, HCell σ.w.heap b o = some v ∧ RS el σ v xs := by
  obtain ⟨cs, ⟨v, rfl, hR⟩, h2⟩ := h
  exact ⟨v, by rw [HCell_eq]; exact h2 0 (by simp), hR⟩
theorem At.cells {el : Nat} {σ : St} {b o : Nat} {x : α} (h : At el σ b o x) : ∃ cs, Rp.rp el σ cs x ∧ cs.length = Rp.sz α ∧ ∀ j, (hj : j < cs.length) → HCell σ.w.heap b (o + j) = some cs[j] := by
  obtain ⟨cs, h1, h2⟩ := h
  exact ⟨cs, h1, Rp.len h1, fun j hj => by rw [HCell_eq]; exact h2 j hj⟩
end

section
variable {P : Program} {H : Array Obj} {n : Nat} {ρ : Nat → Value} {d : Option Nat} {ty T T' E : TypeId} {pos : String} {af : Array Edge} {gd : Option (Nat × Bool)} {x y : Operand} {v : Value} {a : Int} {m b o s bt : Nat} {z : Value}

theorem rv_lenS (hT : P.underlying T = some (.slice E)) (hx : ev n ρ x = v) (hv : IsSl v m) : RunV P H n ρ ⟨d, .call ⟨.builtin .len, #[x], #[T]⟩, ty, pos, af, gd⟩ (I m) := by
  obtain ⟨ad, c, rfl⟩ := hv
  exact rv_len hT hx
theorem rv_ix (hT : P.underlying T = some (.slice E)) (hi : TI P E z s bt) (hx : ev n ρ x = v) (hy : ev n ρ y = I a) (h : Ix v a s b o) :
    RunV P H n ρ ⟨d, .indexAddr T x y, ty, pos, af, gd⟩ (pt b o) := by
  obtain ⟨ob, m, c, rfl, h0, h1, rfl⟩ := h.it
  exact rv_indexAddr_slice hT hi hx hy h0 h1
end
end Go.Vs
