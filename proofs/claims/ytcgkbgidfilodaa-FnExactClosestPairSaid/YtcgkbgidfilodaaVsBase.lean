/- Frames as functions, worlds with a ghost of what is published, one law for each kind of operation. -/
import Derived.Tactics
import Derived.Deep.LoopGhost
import Derived.Deep.Quiet
import Derived.StillTail
import Derived.KernelRfl
import Derived.Laws.World
set_option linter.unusedVariables false
set_option linter.unusedSimpArgs false
namespace Go.Vs
open Go

/-! ## Frames -/
def upd (ρ : Nat → Value) (d : Nat) (v : Value) : Nat → Value := fun t => bif Nat.beq t d then v else ρ t
def fr (n : Nat) (ρ : Nat → Value) : Act := ⟨Array.ofFn (n := n) (fun i => ρ i.1), []⟩
def look (n : Nat) (ρ : Nat → Value) (t : Nat) : Value := bif Nat.blt t n then ρ t else undef
def ev (n : Nat) (ρ : Nat → Value) : Operand → Value
  | .tmp t => look n ρ t
  | .const v => v
  | .global g => .pointer (some ⟨g, 0, none⟩)
  | .func f => .func (.func f) #[] #[]
def argsρ (l : List Value) : Nat → Value := fun t => l.getD t undef

theorem blt_t {t n : Nat} (h : t < n) : Nat.blt t n = true := by simp [Nat.blt, Nat.ble_eq]; omega
theorem blt_f {t n : Nat} (h : ¬ t < n) : Nat.blt t n = false := by
  cases hb : Nat.blt t n with
  | false => rfl
  | true => simp only [Nat.blt, Nat.ble_eq] at hb; omega
theorem beq_f {t n : Nat} (h : t ≠ n) : Nat.beq t n = false := by
  cases hb : Nat.beq t n with
  | false => rfl
  | true => exact absurd (Nat.eq_of_beq_eq_true hb) h
theorem beq_t (n : Nat) : Nat.beq n n = true := Nat.beq_refl n

theorem look_lt {n t : Nat} (ρ : Nat → Value) (h : t < n) : look n ρ t = ρ t := by unfold look; rw [blt_t h]; rfl
theorem look_ge {n t : Nat} (ρ : Nat → Value) (h : ¬ t < n) : look n ρ t = undef := by unfold look; rw [blt_f h]; rfl

theorem look_eq (n : Nat) (ρ : Nat → Value) (t : Nat) : (fr n ρ).tmps.getD t undef = look n ρ t := by
  by_cases h : t < n
  · rw [look_lt ρ h]; simp [fr, Array.getD, h]
  · rw [look_ge ρ h]; simp [fr, Array.getD, h]

theorem fr_eval (n : Nat) (ρ : Nat → Value) : (fr n ρ).eval = ev n ρ := by
  funext x
  cases x with
  | tmp t => exact look_eq n ρ t
  | const v => rfl
  | global g => rfl
  | func f => rfl

theorem fr_put (n : Nat) (ρ : Nat → Value) (d : Nat) (v : Value) : (fr n ρ).put (some d) v = fr n (upd ρ d v) := by
  unfold fr Act.put
  simp only [Act.mk.injEq, and_true]
  apply Array.ext
  · simp
  · intro i h1 h2
    simp only [Array.size_setIfInBounds, Array.size_ofFn] at h1
    by_cases hd : d = i
    · subst hd; simp [upd]
    · simp [upd, beq_f (Ne.symm hd), hd, h1]

theorem fr_put_none (n : Nat) (ρ : Nat → Value) (v : Value) : (fr n ρ).put none v = fr n ρ := rfl

theorem fr_args (l : List Value) (n : Nat) (h : l.length ≤ n) :
    (⟨l.toArray ++ Array.replicate (n - l.length) undef, []⟩ : Act) = fr n (argsρ l) := by
  unfold fr
  simp only [Act.mk.injEq, and_true]
  apply Array.ext
  · simp; omega
  · intro i h1 h2
    simp only [Array.size_ofFn] at h2
    by_cases hi : i < l.length
    · simp [hi, argsρ]
    · simp [Array.getElem_append, hi, argsρ]

def yv (ops : Array Oper) (n : Nat) (ρ : Nat → Value) (j : Nat) : Option Bool :=
  match (ops[j]?).bind (·.dst) with
  | some d => match look n ρ d with
    | .bool b => some b
    | _ => none
  | none => none

theorem yielded_fr (ops : Array Oper) (n : Nat) (ρ : Nat → Value) : yielded ops (fr n ρ).tmps = yv ops n ρ := by
  funext j
  unfold yielded yv
  cases h : (ops[j]?).bind (·.dst) with
  | none => simp
  | some d =>
    simp only [Option.bind_some]
    by_cases hd : d < n
    · have e1 : (fr n ρ).tmps[d]? = some (ρ d) := by simp [fr, hd]
      rw [e1, look_lt ρ hd]
      cases ρ d <;> rfl
    · have e1 : (fr n ρ).tmps[d]? = none := by simp [fr, hd]
      rw [e1, look_ge ρ hd]; rfl

/-- A walk's frame keeps only what is asked: any two frames that look alike on the first n slots are one. -/
theorem fr_ext {n : Nat} {ρ ρ' : Nat → Value} (h : ∀ t, t < n → ρ t = ρ' t) : fr n ρ = fr n ρ' := by
  unfold fr
  congr 1
  exact congrArg _ (funext fun i => h i.1 i.2)

/-! ## Worlds with a ghost -/
structure St where
  w : World
  vis : Nat → Nat
  ok : ∀ b, w.heap.size ≤ b → vis b = 0

abbrev St.size (σ : St) : Nat := σ.w.heap.size
def St.cell (σ : St) (b o : Nat) : Option Value := σ.w.cell? ⟨b, o, none⟩

/-- What was published reads as it did. -/
structure Ext (σ σ' : St) : Prop where
  size : σ.size ≤ σ'.size
  cell : ∀ b o, o < σ.vis b → σ'.cell b o = σ.cell b o
  vis : ∀ b, σ.vis b ≤ σ'.vis b

/-- Below block number B nothing has turned, and the streams are as they were. -/
structure Keep (B : Nat) (σ σ' : St) : Prop where
  os : σ'.w.os = σ.w.os
  tape : σ'.w.tape = σ.w.tape
  output : σ'.w.output = σ.w.output
  dr : σ.w.drawn ≤ σ'.w.drawn
  size : σ.size ≤ σ'.size
  block : ∀ b, b < B → σ'.w.heap[b]? = σ.w.heap[b]?
  vis : ∀ b, b < B → σ'.vis b = σ.vis b

theorem Ext.refl (σ : St) : Ext σ σ := ⟨Nat.le_refl _, fun _ _ _ => rfl, fun _ => Nat.le_refl _⟩
theorem Ext.trans {a b c : St} (h : Ext a b) (k : Ext b c) : Ext a c :=
  ⟨Nat.le_trans h.size k.size, fun x o ho => (k.cell x o (Nat.lt_of_lt_of_le ho (h.vis x))).trans (h.cell x o ho), fun x => Nat.le_trans (h.vis x) (k.vis x)⟩
theorem Keep.refl (B : Nat) (σ : St) : Keep B σ σ := ⟨rfl, rfl, rfl, Nat.le_refl _, Nat.le_refl _, fun _ _ => rfl, fun _ _ => rfl⟩
theorem Keep.trans {B : Nat} {a b c : St} (h : Keep B a b) (k : Keep B b c) : Keep B a c :=
  ⟨k.os.trans h.os, k.tape.trans h.tape, k.output.trans h.output, Nat.le_trans h.dr k.dr, Nat.le_trans h.size k.size, fun i hi => (k.block i hi).trans (h.block i hi), fun i hi => (k.vis i hi).trans (h.vis i hi)⟩
theorem Keep.mono {B B' : Nat} {a b : St} (h : Keep B a b) (hB : B' ≤ B) : Keep B' a b :=
  ⟨h.os, h.tape, h.output, h.dr, h.size, fun i hi => h.block i (Nat.lt_of_lt_of_le hi hB), fun i hi => h.vis i (Nat.lt_of_lt_of_le hi hB)⟩

theorem cell_of_block {w w' : World} {b : Nat} (h : w'.heap[b]? = w.heap[b]?) (o : Nat) : w'.cell? ⟨b, o, none⟩ = w.cell? ⟨b, o, none⟩ := by
  simp only [World.cell?, h]

theorem Keep.ext {σ σ' : St} (h : Keep σ.size σ σ') : Ext σ σ' := by
  refine ⟨h.size, fun b o ho => ?_, fun b => ?_⟩
  · by_cases hb : b < σ.size
    · exact cell_of_block (h.block b hb) o
    · rw [σ.ok b (Nat.le_of_not_lt hb)] at ho; exact absurd ho (Nat.not_lt_zero _)
  · by_cases hb : b < σ.size
    · exact Nat.le_of_eq (h.vis b hb).symm
    · rw [σ.ok b (Nat.le_of_not_lt hb)]; exact Nat.zero_le _

/-! ## Running one operation -/
/-- In every world with this heap the operation yields v and leaves the world. -/
def RunV (P : Program) (H : Array Obj) (n : Nat) (ρ : Nat → Value) (o : Oper) (v : Value) : Prop :=
  ∀ w : World, w.heap = H → (execOp (ev n ρ) o).run P w = .ok (.value v) w

section steps
variable {P : Program} {ops : Array Oper} {Q : Exit → Act → World → Prop} {n d : Nat} {ρ : Nat → Value} {w : World} {v : Value} {rest : List Oper}
variable {op : Op} {ty : TypeId} {pos : String} {af : Array Edge} {gd : Option (Nat × Bool)} {H : Array Obj}

theorem wanted_none (o : Oper) (h : o.guard = none) (y : Nat → Option Bool) : Region.wanted o y = true := by simp [Region.wanted, h]
theorem wanted_yes {o : Oper} {j : Nat} {b : Bool} {y : Nat → Option Bool} (h : o.guard = some (j, b)) (hy : y j = some b) : Region.wanted o y = true := by
  simp [Region.wanted, h, hy]
theorem wanted_no {o : Oper} {j : Nat} {b : Bool} {y : Nat → Option Bool} (h : o.guard = some (j, b)) (hy : y j = some (!b)) : Region.wanted o y = false := by
  cases b <;> simp [Region.wanted, h, hy]

theorem wanted_u {o : Oper} {j : Nat} {b : Bool} {y : Nat → Option Bool} (h : o.guard = some (j, b)) (hy : y j = none) : Region.wanted o y = false := by
  simp [Region.wanted, h, hy]

theorem st_any (hw : Region.wanted ⟨some d, op, ty, pos, af, gd⟩ (yv ops n ρ) = true)
    (hr : RunV P w.heap n ρ ⟨some d, op, ty, pos, af, gd⟩ v)
    (k : wpList P ops Q rest (fr n (upd ρ d v)) w) :
    wpList P ops Q (⟨some d, op, ty, pos, af, gd⟩ :: rest) (fr n ρ) w := by
  unfold wpList
  rw [yielded_fr, if_pos hw]
  refine .inl ?_
  unfold Oper.wp
  rw [fr_eval, hr w rfl]
  simp only [Oper.upon_value, fr_put]
  exact k

theorem st (hr : RunV P w.heap n ρ ⟨some d, op, ty, pos, af, none⟩ v)
    (k : wpList P ops Q rest (fr n (upd ρ d v)) w) :
    wpList P ops Q (⟨some d, op, ty, pos, af, none⟩ :: rest) (fr n ρ) w := st_any rfl hr k

theorem st_g {j : Nat} {b : Bool} (hy : yv ops n ρ j = some b) (hr : RunV P w.heap n ρ ⟨some d, op, ty, pos, af, some (j, b)⟩ v)
    (k : wpList P ops Q rest (fr n (upd ρ d v)) w) :
    wpList P ops Q (⟨some d, op, ty, pos, af, some (j, b)⟩ :: rest) (fr n ρ) w := st_any (wanted_yes rfl hy) hr k

theorem st_skip {j : Nat} {b : Bool} (hy : yv ops n ρ j = some (!b))
    (k : wpList P ops Q rest (fr n (upd ρ d undef)) w) :
    wpList P ops Q (⟨some d, op, ty, pos, af, some (j, b)⟩ :: rest) (fr n ρ) w := by
  unfold wpList
  rw [yielded_fr, wanted_no rfl hy, if_neg (by simp), fr_put]
  exact k

theorem st_skip_u {j : Nat} {b : Bool} (hy : yv ops n ρ j = none)
    (k : wpList P ops Q rest (fr n (upd ρ d undef)) w) :
    wpList P ops Q (⟨some d, op, ty, pos, af, some (j, b)⟩ :: rest) (fr n ρ) w := by
  unfold wpList
  rw [yielded_fr, wanted_u rfl hy, if_neg (by simp), fr_put]
  exact k

theorem st_skip_none {j : Nat} {b : Bool} (hy : yv ops n ρ j = some (!b))
    (k : wpList P ops Q rest (fr n ρ) w) :
    wpList P ops Q (⟨none, op, ty, pos, af, some (j, b)⟩ :: rest) (fr n ρ) w := by
  unfold wpList
  rw [yielded_fr, wanted_no rfl hy, if_neg (by simp), fr_put_none]
  exact k

end steps

/-! ## Codes -/
section codes
variable {P : Program} {Q : Exit → Act → World → Prop} {n : Nat} {ρ : Nat → Value} {w : World}

theorem cd_cond {c : Operand} {x y : Code} (b : Bool) (hc : ev n ρ c = .bool b) (ht : b = true → x.wp P Q (fr n ρ) w) (hf : b = false → y.wp P Q (fr n ρ) w) :
    (Code.cond c x y).wp P Q (fr n ρ) w := wp_cond_split (by rw [fr_eval]; exact hc) ht hf

theorem cd_true {c : Operand} {x y : Code} (hc : ev n ρ c = .bool true) (ht : x.wp P Q (fr n ρ) w) : (Code.cond c x y).wp P Q (fr n ρ) w :=
  wp_cond (t := true) (by rw [fr_eval]; exact hc) ht
theorem cd_false {c : Operand} {x y : Code} (hc : ev n ρ c = .bool false) (ht : y.wp P Q (fr n ρ) w) : (Code.cond c x y).wp P Q (fr n ρ) w :=
  wp_cond (t := false) (by rw [fr_eval]; exact hc) ht

theorem results_fr1 {fn : Func} {t : Nat} {v : Value} (h : fn.results = #[.tmp t]) (hl : look n ρ t = v) (w : World) : (results fn (fr n ρ).tmps).run P w = .ok v w := by
  rw [results_tmp h, look_eq, hl]
theorem results_fr2 {fn : Func} {t u : Nat} {v v' : Value} (h : fn.results = #[.tmp t, .tmp u]) (hl : look n ρ t = v) (hl' : look n ρ u = v') (w : World) : (results fn (fr n ρ).tmps).run P w = .ok (.tuple #[v, v']) w := by
  rw [results_tmp2 h, look_eq, look_eq, hl, hl']

/-- Into a function. -/
theorem enter {f : FuncId} {fn : Func} {c : Code} {l : List Value} {R : Ending → World → Prop} (hf : P.funcs[f]? = some fn) (hb : fn.body = some c) (hn : fn.ntmps = n) (hl : Nat.ble l.length n = true)
    (h : c.wp P (bodyPost P fn R) (fr n (argsρ l)) w) : Calls P f l.toArray w R := by
  refine calls_of_wp hf hb ?_
  have := fr_args l n (by simpa using hl)
  simp only [List.size_toArray, hn, this]
  exact h
end codes
end Go.Vs
