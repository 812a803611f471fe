/- What a function of the program does to its memory, step by step. -/
import Derived.Tactics
import Derived.Deep.LoopGhost
import Derived.Deep.Quiet
import Derived.StillTail
import Derived.KernelRfl
import Derived.Laws.World
import Derived.Orders
import Derived.Laws.StructEq
import Derived.ProofKit
import Derived.SizedLaws
set_option linter.unusedVariables false
set_option linter.unusedSimpArgs false
namespace Go.Vs
open Go

/-! ## Frames -/
def upd (ρ : Nat → Value) (d : Nat) (v : Value) : Nat → Value := fun t => bif Nat.beq t d then v else ρ t
def fr (n : Nat) (ρ : Nat → Value) : Act := ⟨Array.ofFn (n := n) (fun i => ρ i.1), []⟩
def look (n : Nat) (ρ : Nat → Value) (t : Nat) : Value := bif Nat.blt t n then ρ t else undef
def ev (n : Nat) (ρ : Nat → Value) : Operand → Value
  | .tmp t => look n ρ t
  | .const v => v
  | .global g => .pointer (some ⟨g, 0, none⟩)
  | .func f => .func (.func f) #[] #[]
def argsρ (l : List Value) : Nat → Value := fun t => l.getD t undef

theorem blt_t {t n : Nat} (h : t < n) : Nat.blt t n = true := by simp [Nat.blt, Nat.ble_eq]; omega
theorem blt_f {t n : Nat} (h : ¬ t < n) : Nat.blt t n = false := by
  cases hb : Nat.blt t n with
  | false => rfl
  | true => simp only [Nat.blt, Nat.ble_eq] at hb; omega
theorem beq_f {t n : Nat} (h : t ≠ n) : Nat.beq t n = false := by
  cases hb : Nat.beq t n with
  | false => rfl
  | true => exact absurd (Nat.eq_of_beq_eq_true hb) h
theorem beq_t (n : Nat) : Nat.beq n n = true := Nat.beq_refl n

theorem look_lt {n t : Nat} (ρ : Nat → Value) (h : t < n) : look n ρ t = ρ t := by unfold look; rw [blt_t h]; rfl
theorem look_ge {n t : Nat} (ρ : Nat → Value) (h : ¬ t < n) : look n ρ t = undef := by unfold look; rw [blt_f h]; rfl

theorem look_eq (n : Nat) (ρ : Nat → Value) (t : Nat) : (fr n ρ).tmps.getD t undef = look n ρ t := by
  by_cases h : t < n
  · rw [look_lt ρ h]; simp [fr, Array.getD, h]
  · rw [look_ge ρ h]; simp [fr, Array.getD, h]

theorem fr_eval (n : Nat) (ρ : Nat → Value) : (fr n ρ).eval = ev n ρ := by
  funext x
  cases x with
  | tmp t => exact look_eq n ρ t
  | const v => rfl
  | global g => rfl
  | func f => rfl

theorem fr_put (n : Nat) (ρ : Nat → Value) (d : Nat) (v : Value) : (fr n ρ).put (some d) v = fr n (upd ρ d v) := by
  unfold fr Act.put
  simp only [Act.mk.injEq, and_true]
  apply Array.ext
  · simp
  · intro i h1 h2
    simp only [Array.size_setIfInBounds, Array.size_ofFn] at h1
    by_cases hd : d = i
    · subst hd; simp [upd]
    · simp [upd, beq_f (Ne.symm hd), hd, h1]

theorem fr_put_none (n : Nat) (ρ : Nat → Value) (v : Value) : (fr n ρ).put none v = fr n ρ := rfl

theorem fr_args (l : List Value) (n : Nat) (h : l.length ≤ n) :
    (⟨l.toArray ++ Array.replicate (n - l.length) undef, []⟩ : Act) = fr n (argsρ l) := by
  unfold fr
  simp only [Act.mk.injEq, and_true]
  apply Array.ext
  · simp; omega
  · intro i h1 h2
    simp only [Array.size_ofFn] at h2
    by_cases hi : i < l.length
    · simp [hi, argsρ]
    · simp [Array.getElem_append, hi, argsρ]

def yv (ops : Array Oper) (n : Nat) (ρ : Nat → Value) (j : Nat) : Option Bool :=
  match (ops[j]?).bind (·.dst) with
  | some d => match look n ρ d with
    | .bool b => some b
    | _ => none
  | none => none

theorem yielded_fr (ops : Array Oper) (n : Nat) (ρ : Nat → Value) : yielded ops (fr n ρ).tmps = yv ops n ρ := by
  funext j
  unfold yielded yv
  cases h : (ops[j]?).bind (·.dst) with
  | none => simp
  | some d =>
    simp only [Option.bind_some]
    by_cases hd : d < n
    · have e1 : (fr n ρ).tmps[d]? = some (ρ d) := by simp [fr, hd]
      rw [e1, look_lt ρ hd]
      cases ρ d <;> rfl
    · have e1 : (fr n ρ).tmps[d]? = none := by simp [fr, hd]
      rw [e1, look_ge ρ hd]; rfl

theorem fr_ext {n : Nat} {ρ ρ' : Nat → Value} (h : ∀ t, t < n → ρ t = ρ' t) : fr n ρ = fr n ρ' := by
  unfold fr
  congr 1
  exact congrArg _ (funext fun i => h i.1 i.2)

/-! ## Worlds with a ghost -/
structure St where
  w : World
  vis : Nat → Nat
  ok : ∀ b, w.heap.size ≤ b → vis b = 0
  loud : Prop   -- of the answers that are drawn nothing is said any more

abbrev St.size (σ : St) : Nat := σ.w.heap.size
def St.cell (σ : St) (b o : Nat) : Option Value := σ.w.cell? ⟨b, o, none⟩

structure Ext (σ σ' : St) : Prop where
  size : σ.size ≤ σ'.size
  block : ∀ b, 0 < σ.vis b → σ'.w.heap[b]? = σ.w.heap[b]?
  vis : ∀ b, σ.vis b ≤ σ'.vis b

structure Keep (B : Nat) (σ σ' : St) : Prop where
  os : σ'.w.os = σ.w.os
  tape : σ'.w.tape = σ.w.tape
  output : σ'.w.output = σ.w.output
  dr : σ.w.drawn ≤ σ'.w.drawn
  size : σ.size ≤ σ'.size
  block : ∀ b, b < B → σ'.w.heap[b]? = σ.w.heap[b]?
  vis : ∀ b, b < B → σ'.vis b = σ.vis b
  loud : σ'.loud = σ.loud

def St.mute (σ : St) : St := ⟨σ.w, σ.vis, σ.ok, False⟩
theorem Ext.mute (σ : St) : Ext σ σ.mute := ⟨Nat.le_refl _, fun _ _ => rfl, fun _ => Nat.le_refl _⟩
theorem Ext.refl (σ : St) : Ext σ σ := ⟨Nat.le_refl _, fun _ _ => rfl, fun _ => Nat.le_refl _⟩
theorem Ext.trans {a b c : St} (h : Ext a b) (k : Ext b c) : Ext a c :=
  ⟨Nat.le_trans h.size k.size, fun x ho => (k.block x (Nat.lt_of_lt_of_le ho (h.vis x))).trans (h.block x ho), fun x => Nat.le_trans (h.vis x) (k.vis x)⟩
theorem Keep.refl (B : Nat) (σ : St) : Keep B σ σ := ⟨rfl, rfl, rfl, Nat.le_refl _, Nat.le_refl _, fun _ _ => rfl, fun _ _ => rfl, rfl⟩
theorem Keep.trans {B : Nat} {a b c : St} (h : Keep B a b) (k : Keep B b c) : Keep B a c :=
  ⟨k.os.trans h.os, k.tape.trans h.tape, k.output.trans h.output, Nat.le_trans h.dr k.dr, Nat.le_trans h.size k.size, fun i hi => (k.block i hi).trans (h.block i hi), fun i hi => (k.vis i hi).trans (h.vis i hi), k.loud.trans h.loud⟩
theorem Keep.mono {B B' : Nat} {a b : St} (h : Keep B a b) (hB : B' ≤ B) : Keep B' a b :=
  ⟨h.os, h.tape, h.output, h.dr, h.size, fun i hi => h.block i (Nat.lt_of_lt_of_le hi hB), fun i hi => h.vis i (Nat.lt_of_lt_of_le hi hB), h.loud⟩

theorem cell_of_block {w w' : World} {b : Nat} (h : w'.heap[b]? = w.heap[b]?) (o : Nat) : w'.cell? ⟨b, o, none⟩ = w.cell? ⟨b, o, none⟩ := by
  simp only [World.cell?, h]

theorem Ext.cell {σ σ' : St} (h : Ext σ σ') (b o : Nat) (ho : o < σ.vis b) : σ'.cell b o = σ.cell b o := cell_of_block (h.block b (Nat.lt_of_le_of_lt (Nat.zero_le _) ho)) o
theorem Keep.ext {σ σ' : St} (h : Keep σ.size σ σ') : Ext σ σ' := by
  refine ⟨h.size, fun b ho => ?_, fun b => ?_⟩
  · by_cases hb : b < σ.size
    · exact h.block b hb
    · rw [σ.ok b (Nat.le_of_not_lt hb)] at ho; exact absurd ho (Nat.not_lt_zero _)
  · by_cases hb : b < σ.size
    · exact Nat.le_of_eq (h.vis b hb).symm
    · rw [σ.ok b (Nat.le_of_not_lt hb)]; exact Nat.zero_le _

/-! ## Running one operation -/
def RunV (P : Program) (H : Array Obj) (n : Nat) (ρ : Nat → Value) (o : Oper) (v : Value) : Prop :=
  ∀ w : World, w.heap = H → (execOp (ev n ρ) o).run P w = .ok (.value v) w

section steps
variable {P : Program} {ops : Array Oper} {Q : Exit → Act → World → Prop} {n d : Nat} {ρ : Nat → Value} {w : World} {v : Value} {rest : List Oper}
variable {op : Op} {ty : TypeId} {pos : String} {af : Array Edge} {gd : Option (Nat × Bool)} {H : Array Obj}

theorem wanted_none (o : Oper) (h : o.guard = none) (y : Nat → Option Bool) : Region.wanted o y = true := by simp [Region.wanted, h]
theorem wanted_yes {o : Oper} {j : Nat} {b : Bool} {y : Nat → Option Bool} (h : o.guard = some (j, b)) (hy : y j = some b) : Region.wanted o y = true := by
  simp [Region.wanted, h, hy]
theorem wanted_no {o : Oper} {j : Nat} {b : Bool} {y : Nat → Option Bool} (h : o.guard = some (j, b)) (hy : y j = some (!b)) : Region.wanted o y = false := by
  cases b <;> simp [Region.wanted, h, hy]

theorem wanted_u {o : Oper} {j : Nat} {b : Bool} {y : Nat → Option Bool} (h : o.guard = some (j, b)) (hy : y j = none) : Region.wanted o y = false := by
  simp [Region.wanted, h, hy]

theorem st_any (hw : Region.wanted ⟨some d, op, ty, pos, af, gd⟩ (yv ops n ρ) = true)
    (hr : RunV P w.heap n ρ ⟨some d, op, ty, pos, af, gd⟩ v)
    (k : wpList P ops Q rest (fr n (upd ρ d v)) w) :
    wpList P ops Q (⟨some d, op, ty, pos, af, gd⟩ :: rest) (fr n ρ) w := by
  unfold wpList
  rw [yielded_fr, if_pos hw]
  refine .inl ?_
  unfold Oper.wp
  rw [fr_eval, hr w rfl]
  simp only [Oper.upon_value, fr_put]
  exact k

theorem st (hr : RunV P w.heap n ρ ⟨some d, op, ty, pos, af, none⟩ v)
    (k : wpList P ops Q rest (fr n (upd ρ d v)) w) :
    wpList P ops Q (⟨some d, op, ty, pos, af, none⟩ :: rest) (fr n ρ) w := st_any rfl hr k

theorem st_g {j : Nat} {b : Bool} (hy : yv ops n ρ j = some b) (hr : RunV P w.heap n ρ ⟨some d, op, ty, pos, af, some (j, b)⟩ v)
    (k : wpList P ops Q rest (fr n (upd ρ d v)) w) :
    wpList P ops Q (⟨some d, op, ty, pos, af, some (j, b)⟩ :: rest) (fr n ρ) w := st_any (wanted_yes rfl hy) hr k

theorem st_skip {j : Nat} {b : Bool} (hy : yv ops n ρ j = some (!b))
    (k : wpList P ops Q rest (fr n (upd ρ d undef)) w) :
    wpList P ops Q (⟨some d, op, ty, pos, af, some (j, b)⟩ :: rest) (fr n ρ) w := by
  unfold wpList
  rw [yielded_fr, wanted_no rfl hy, if_neg (by simp), fr_put]
  exact k

theorem st_skip_u {j : Nat} {b : Bool} (hy : yv ops n ρ j = none)
    (k : wpList P ops Q rest (fr n (upd ρ d undef)) w) :
    wpList P ops Q (⟨some d, op, ty, pos, af, some (j, b)⟩ :: rest) (fr n ρ) w := by
  unfold wpList
  rw [yielded_fr, wanted_u rfl hy, if_neg (by simp), fr_put]
  exact k

end steps

/-! ## Codes -/
section codes
variable {P : Program} {Q : Exit → Act → World → Prop} {n : Nat} {ρ : Nat → Value} {w : World}

theorem cd_cond {c : Operand} {x y : Code} (b : Bool) (hc : ev n ρ c = .bool b) (ht : b = true → x.wp P Q (fr n ρ) w) (hf : b = false → y.wp P Q (fr n ρ) w) :
    (Code.cond c x y).wp P Q (fr n ρ) w := wp_cond_split (by rw [fr_eval]; exact hc) ht hf

theorem enter {f : FuncId} {fn : Func} {c : Code} {l : List Value} {R : Ending → World → Prop} (hf : P.funcs[f]? = some fn) (hb : fn.body = some c) (hn : fn.ntmps = n) (hl : Nat.ble l.length n = true)
    (h : c.wp P (bodyPost P fn R) (fr n (argsρ l)) w) : Calls P f l.toArray w R := by
  refine calls_of_wp hf hb ?_
  have := fr_args l n (by simpa using hl)
  simp only [List.size_toArray, hn, this]
  exact h
end codes
end Go.Vs

namespace Go.Vs
open Go

abbrev I (n : Int) : Value := .int .i64 n
abbrev B (b : Bool) : Value := .bool b
def w64 (n : Int) : Int := IntKind.i64.wrap n
theorem w64_id {n : Int} (h1 : -9223372036854775808 ≤ n) (h2 : n ≤ 9223372036854775807) : w64 n = n := by
  simp only [w64, IntKind.wrap, IntKind.bits, IntKind.signed, Bool.true_and, decide_eq_true_eq, ge_iff_le]
  have e1 : ((2 : Int) ^ (64 : Nat)) = 18446744073709551616 := by decide
  have e2 : ((2 : Int) ^ (64 - 1 : Nat)) = 9223372036854775808 := by decide
  rw [e1, e2]
  split <;> omega
def gand (a b : Int) : Int := IntKind.i64.wrap ((BitVec.ofInt 64 a &&& BitVec.ofInt 64 b).toNat)
def gxor (a b : Int) : Int := IntKind.i64.wrap ((BitVec.ofInt 64 a ^^^ BitVec.ofInt 64 b).toNat)
structure TI (P : Program) (t : TypeId) (z : Value) (s b : Nat) : Prop where
  it : ∃ i, P.info? t = some i ∧ i.zero = some z ∧ i.size = s ∧ i.bytes = b
theorem TI.mk' {P : Program} {t : TypeId} {z : Value} {s b : Nat} (h : (P.info? t).map (fun i => (i.zero, i.size, i.bytes)) = some (some z, s, b)) : TI P t z s b := by
  cases e : P.info? t with
  | none => rw [e] at h; simp at h
  | some i =>
    rw [e] at h
    simp only [Option.map_some, Option.some.injEq, Prod.mk.injEq] at h
    exact ⟨i, e, h.1, h.2.1, h.2.2⟩

section
variable {P : Program} {H : Array Obj} {n : Nat} {ρ : Nat → Value} {d : Option Nat} {ty T T' : TypeId} {pos : String} {af : Array Edge} {gd : Option (Nat × Bool)} {x y c : Operand} {v u : Value} {a b : Int} {p q r : Bool}

theorem rv_move (h : ev n ρ x = v) : RunV P H n ρ ⟨d, .move x, ty, pos, af, gd⟩ v := fun w _ => by simp [execOp, h]
theorem rv_assign (h : ev n ρ x = v) : RunV P H n ρ ⟨d, .assign x, ty, pos, af, gd⟩ v := fun w _ => by simp [execOp, h]
theorem rv_pick_t (hc : ev n ρ c = B true) (h : ev n ρ x = v) : RunV P H n ρ ⟨d, .pick c x y, ty, pos, af, gd⟩ v := fun w _ => by simp [execOp, h, hc, asBool]
theorem rv_pick_f (hc : ev n ρ c = B false) (h : ev n ρ y = v) : RunV P H n ρ ⟨d, .pick c x y, ty, pos, af, gd⟩ v := fun w _ => by simp [execOp, h, hc, asBool]
theorem rv_add (hx : ev n ρ x = I a) (hy : ev n ρ y = I b) : RunV P H n ρ ⟨d, .binOp .add T x y T', ty, pos, af, gd⟩ (I (w64 (a + b))) := fun w _ => by
  simp [execOp, hx, hy, eqGuard, binOp, Op.intArith, w64]
theorem rv_sub (hx : ev n ρ x = I a) (hy : ev n ρ y = I b) : RunV P H n ρ ⟨d, .binOp .sub T x y T', ty, pos, af, gd⟩ (I (w64 (a - b))) := fun w _ => by
  simp [execOp, hx, hy, eqGuard, binOp, Op.intArith, w64]
theorem rv_mul (hx : ev n ρ x = I a) (hy : ev n ρ y = I b) : RunV P H n ρ ⟨d, .binOp .mul T x y T', ty, pos, af, gd⟩ (I (w64 (a * b))) := fun w _ => by
  simp [execOp, hx, hy, eqGuard, binOp, Op.intArith, w64]
theorem rv_quo (hx : ev n ρ x = I a) (hy : ev n ρ y = I b) (h0 : b ≠ 0) : RunV P H n ρ ⟨d, .binOp .quo T x y T', ty, pos, af, gd⟩ (I (w64 (a.tdiv b))) := fun w _ => by
  simp [execOp, hx, hy, eqGuard, binOp, Op.intDiv, w64, h0]
theorem rv_rem (hx : ev n ρ x = I a) (hy : ev n ρ y = I b) (h0 : b ≠ 0) : RunV P H n ρ ⟨d, .binOp .rem T x y T', ty, pos, af, gd⟩ (I (a.tmod b)) := fun w _ => by
  simp [execOp, hx, hy, eqGuard, binOp, Op.intDiv, h0]
theorem rv_and (hx : ev n ρ x = I a) (hy : ev n ρ y = I b) : RunV P H n ρ ⟨d, .binOp .and T x y T', ty, pos, af, gd⟩ (I (gand a b)) := fun w _ => by
  simp only [execOp, hx, hy, eqGuard, binOp]; rfl
theorem rv_xor (hx : ev n ρ x = I a) (hy : ev n ρ y = I b) : RunV P H n ρ ⟨d, .binOp .xor T x y T', ty, pos, af, gd⟩ (I (gxor a b)) := fun w _ => by
  simp only [execOp, hx, hy, eqGuard, binOp]; rfl
theorem rv_eql (hx : ev n ρ x = I a) (hy : ev n ρ y = I b) : RunV P H n ρ ⟨d, .binOp .eql T x y T', ty, pos, af, gd⟩ (B (a == b)) := fun w _ => by
  simp [execOp, hx, hy, eqGuard, binOp, Op.intCmp]
theorem rv_neq (hx : ev n ρ x = I a) (hy : ev n ρ y = I b) : RunV P H n ρ ⟨d, .binOp .neq T x y T', ty, pos, af, gd⟩ (B (a != b)) := fun w _ => by
  simp [execOp, hx, hy, eqGuard, binOp, Op.intCmp]
theorem rv_lss (hx : ev n ρ x = I a) (hy : ev n ρ y = I b) : RunV P H n ρ ⟨d, .binOp .lss T x y T', ty, pos, af, gd⟩ (B (decide (a < b))) := fun w _ => by
  simp [execOp, hx, hy, eqGuard, binOp, Op.intCmp]
theorem rv_leq (hx : ev n ρ x = I a) (hy : ev n ρ y = I b) : RunV P H n ρ ⟨d, .binOp .leq T x y T', ty, pos, af, gd⟩ (B (decide (a ≤ b))) := fun w _ => by
  simp [execOp, hx, hy, eqGuard, binOp, Op.intCmp]
theorem rv_gtr (hx : ev n ρ x = I a) (hy : ev n ρ y = I b) : RunV P H n ρ ⟨d, .binOp .gtr T x y T', ty, pos, af, gd⟩ (B (decide (b < a))) := fun w _ => by
  simp [execOp, hx, hy, eqGuard, binOp, Op.intCmp]
theorem rv_geq (hx : ev n ρ x = I a) (hy : ev n ρ y = I b) : RunV P H n ρ ⟨d, .binOp .geq T x y T', ty, pos, af, gd⟩ (B (decide (b ≤ a))) := fun w _ => by
  simp [execOp, hx, hy, eqGuard, binOp, Op.intCmp]
theorem rv_neg (hx : ev n ρ x = I a) : RunV P H n ρ ⟨d, .unOp .neg T x, ty, pos, af, gd⟩ (I (w64 (0 - a))) := fun w _ => by
  simp [execOp, hx, Op.unary, Op.intArith, w64]
theorem rv_not (hx : ev n ρ x = B p) : RunV P H n ρ ⟨d, .unOp .not T x, ty, pos, af, gd⟩ (B (!p)) := fun w _ => by
  simp [execOp, hx, Op.unary]
theorem rv_conv {k : IntKind} (hT : P.underlying T = some (.int k)) (hT' : P.underlying T' = some (.int .i64)) (hx : ev n ρ x = .int k a) : RunV P H n ρ ⟨d, .convert T T' x, ty, pos, af, gd⟩ (I (w64 a)) := fun w _ => by
  simp [execOp, hx, convert, underlying, hT, hT', Conv.intToInt, w64]
theorem rv_extract {vs : Array Value} {k : Nat} (hx : ev n ρ x = .tuple vs) (hv : vs[k]? = some v) : RunV P H n ρ ⟨d, .extract x k, ty, pos, af, gd⟩ v := fun w _ => by
  simp [execOp, hx, Instr.extract, hv]
theorem rv_nilCheck {ad : Addr} (hx : ev n ρ x = .pointer (some ad)) : RunV P H n ρ ⟨d, .nilCheck x, ty, pos, af, gd⟩ (.pointer (some ad)) := fun w _ => by
  simp [execOp, hx]
theorem rv_len {m : Nat} {E : TypeId} {ad : Option Addr} {cp : Nat} (hT : P.underlying T = some (.slice E)) (hx : ev n ρ x = .slice ad m cp) :
    RunV P H n ρ ⟨d, .call ⟨.builtin .len, #[x], #[T]⟩, ty, pos, af, gd⟩ (I m) := fun w _ => by
  simp [execOp, resolve, invoke, builtin, Builtin.len_, hx, underlying, hT, goInt]
theorem rv_max (hx : ev n ρ x = I a) (hy : ev n ρ y = I b) : RunV P H n ρ ⟨d, .call ⟨.builtin .max, #[x, y], #[T, T']⟩, ty, pos, af, gd⟩ (I (max a b)) := fun w _ => by
  simp [execOp, resolve, invoke, builtin, Builtin.max_, Builtin.max2, hx, hy]; split <;> omega
theorem rv_min (hx : ev n ρ x = I a) (hy : ev n ρ y = I b) : RunV P H n ρ ⟨d, .call ⟨.builtin .min, #[x, y], #[T, T']⟩, ty, pos, af, gd⟩ (I (min a b)) := fun w _ => by
  simp [execOp, resolve, invoke, builtin, Builtin.min_, Builtin.min2, hx, hy]; split <;> omega

abbrev pt (bl o : Nat) : Value := .pointer (some ⟨bl, o, none⟩)
theorem add_plain (bl o k : Nat) : (⟨bl, o, none⟩ : Addr).add k = ⟨bl, o + k, none⟩ := by
  unfold Addr.add; split <;> simp_all

theorem run_typeInfo {t : TypeId} {z : Value} {s bt : Nat} (h : TI P t z s bt) (w : World) : (sizeOf t).run P w = .ok s w := by
  obtain ⟨i, h1, h2, h3, h4⟩ := h.it
  simp [sizeOf, typeInfo, h1, h3]
theorem run_zero {t : TypeId} {z : Value} {s bt : Nat} (h : TI P t z s bt) (w : World) : (zeroValue t).run P w = .ok z w := by
  obtain ⟨i, h1, h2, h3, h4⟩ := h.it
  simp [zeroValue, typeInfo, h1, h2]

theorem rv_fieldAddr {fs : Array Field} {k bl o off ft : Nat} {z : Value} {s bt : Nat} (hT : P.underlying T = some (.struct fs)) (hf : (fs[k]?).map (fun f => (f.offset, f.type)) = some (off, ft))
    (hi : TI P ft z s bt) (hs : Nat.beq s 0 = false) (hx : ev n ρ x = pt bl o) : RunV P H n ρ ⟨d, .fieldAddr T x k, ty, pos, af, gd⟩ (pt bl (o + off)) := fun w _ => by
  cases hfk : fs[k]? with
  | none => rw [hfk] at hf; cases hf
  | some f =>
    rw [hfk] at hf
    simp only [Option.map_some, Option.some.injEq, Prod.mk.injEq] at hf
    obtain ⟨rfl, rfl⟩ := hf
    have hs' : s ≠ 0 := by rintro rfl; cases hs
    simp [execOp, hx, Instr.fieldAt, underlying, hT, hfk, Instr.sureAddr, fieldPlace, run_typeInfo hi, hs', add_plain]

theorem rv_index_arr {E m : Nat} {xs : List Int} {e : Int} {z : Value} {bt : Nat} (hT : P.underlying T = some (.array m E)) (hi : TI P E z 1 bt) (hE : P.underlying E = some (.int .i64))
    (hx : ev n ρ x = .agg (xs.map I).toArray) (hy : ev n ρ y = I a) (h0 : 0 ≤ a) (h1 : a.toNat < m) (he : xs[a.toNat]? = some e) : RunV P H n ρ ⟨d, .index T x y, ty, pos, af, gd⟩ (I e) := fun w _ => by
  have h2 : a < (m : Int) := by omega
  have hag : (isAgg E).run P w = .ok false w := by
    simp only [isAgg, underlying, Sem.run_bind, run_program, Result.andThen_ok, hE, Sem.run_pure]
  simp [execOp, hx, hy, Instr.index, asIntOf, underlying, hT, h0, h2, run_typeInfo hi, part, hag, he]

theorem rv_indexAddr_slice {E : TypeId} {bl o m cp : Nat} {z : Value} {s bt : Nat} (hT : P.underlying T = some (.slice E)) (hi : TI P E z s bt)
    (hx : ev n ρ x = .slice (some ⟨bl, o, none⟩) m cp) (hy : ev n ρ y = I a) (h0 : 0 ≤ a) (h1 : a.toNat < m) :
    RunV P H n ρ ⟨d, .indexAddr T x y, ty, pos, af, gd⟩ (pt bl (o + a.toNat * s)) := fun w _ => by
  have h2 : a < (m : Int) := by omega
  simp [execOp, hx, hy, Instr.indexAt, asIntOf, underlying, hT, h0, h2, run_typeInfo hi, add_plain]

theorem rv_indexAddr_array {E : TypeId} {bl o m : Nat} {z : Value} {s bt : Nat} (hT : P.underlying T = some (.array m E)) (hi : TI P E z s bt)
    (hx : ev n ρ x = pt bl o) (hy : ev n ρ y = I a) (h0 : 0 ≤ a) (h1 : a.toNat < m) :
    RunV P H n ρ ⟨d, .indexAddr T x y, ty, pos, af, gd⟩ (pt bl (o + a.toNat * s)) := fun w _ => by
  have h2 : a < (m : Int) := by omega
  simp [execOp, hx, hy, Instr.indexAt, asIntOf, underlying, hT, h0, h2, run_typeInfo hi, add_plain, Instr.sureAddr]

def HCell (H : Array Obj) (b o : Nat) : Option Value := match H[b]? with
  | some (.cells c _ _) => c[o]?
  | _ => none
theorem HCell_eq (w : World) (b o : Nat) : HCell w.heap b o = w.cell? ⟨b, o, none⟩ := by
  unfold HCell World.cell?
  cases h : w.heap[b]? with
  | none => rfl
  | some ob => cases ob <;> rfl

theorem rv_load1 {bl o : Nat} {D : TypeDesc} (hT : P.underlying T = some D) (hD : (match D with | .struct _ => false | .array _ _ => false | _ => true) = true)
    (hx : ev n ρ x = pt bl o) (hc : HCell H bl o = some v) : RunV P H n ρ ⟨d, .load T x, ty, pos, af, gd⟩ v := fun w hw => by
  subst hw
  rw [HCell_eq] at hc
  have : (isAgg T).run P w = .ok false w := by
    simp only [isAgg, underlying, Sem.run_bind, run_program, Result.andThen_ok, hT, Sem.run_pure]
    cases D <;> simp_all
  simp [execOp, hx, Instr.loadAt, Instr.sureAddr, loadVar, this, load, Sem.run, hc]

theorem run_loadCellsFrom (w : World) (bl o : Nat) : ∀ (k i : Nat) (cs acc : List Value), cs.length = k → (∀ j, (h : j < cs.length) → w.cell? ⟨bl, o + (i + j), none⟩ = some cs[j]) →
    (loadCellsFrom ⟨bl, o, none⟩ i k acc.toArray).run P w = .ok (acc ++ cs).toArray w
  | 0, i, cs, acc, hk, _ => by
    have : cs = [] := List.eq_nil_of_length_eq_zero hk
    subst this; simp [loadCellsFrom]
  | k + 1, i, [], acc, hk, _ => by simp at hk
  | k + 1, i, c :: cs, acc, hk, hc => by
    have h0 := hc 0 (by simp)
    simp only [Nat.add_zero, List.getElem_cons_zero] at h0
    have ih := run_loadCellsFrom w bl o k (i + 1) cs (acc ++ [c]) (by simpa using hk) (fun j hj => by
      have := hc (j + 1) (by simpa using hj)
      simpa [Nat.add_assoc, Nat.add_comm 1 j] using this)
    simp only [loadCellsFrom, Sem.run_bind, load, add_plain, Sem.run, h0, Result.andThen_ok]
    have e : acc.toArray.push c = (acc ++ [c]).toArray := by simp
    rw [e, ih]; simp

theorem rv_load {bl o : Nat} {D : TypeDesc} {cs : List Value} {z : Value} {s bt : Nat} (hT : P.underlying T = some D) (hD : (match D with | .struct _ => false | .array _ _ => false | _ => true) = false)
    (hi : TI P T z s bt) (hx : ev n ρ x = pt bl o) (hl : cs.length = s) (hc : ∀ j, (h : j < cs.length) → HCell H bl (o + j) = some cs[j]) : RunV P H n ρ ⟨d, .load T x, ty, pos, af, gd⟩ (.agg cs.toArray) := fun w hw => by
  subst hw
  have : (isAgg T).run P w = .ok true w := by
    simp only [isAgg, underlying, Sem.run_bind, run_program, Result.andThen_ok, hT, Sem.run_pure]
    cases D <;> simp_all
  have := run_loadCellsFrom (P := P) w bl o s 0 cs [] hl (fun j hj => by rw [← HCell_eq]; simpa using hc j hj)
  simp [execOp, Instr.loadAt, Instr.sureAddr, loadVar, *, loadCells, run_typeInfo hi]
end
end Go.Vs

namespace Go.Vs
open Go

def plain : Value → Bool
  | .agg _ | .tuple _ => false
  | _ => true

structure ExtL (lo : Nat) (σ σ' : St) : Prop where
  block : ∀ b, lo ≤ b → 0 < σ.vis b → σ'.w.heap[b]? = σ.w.heap[b]?
  vis : ∀ b, lo ≤ b → σ.vis b ≤ σ'.vis b
theorem Ext.extL {σ σ' : St} (h : Ext σ σ') (lo : Nat) : ExtL lo σ σ' := ⟨fun b _ ho => h.block b ho, fun b _ => h.vis b⟩
theorem ExtL.cell {lo : Nat} {σ σ' : St} (h : ExtL lo σ σ') (b o : Nat) (hb : lo ≤ b) (ho : o < σ.vis b) : σ'.cell b o = σ.cell b o := cell_of_block (h.block b hb (Nat.lt_of_le_of_lt (Nat.zero_le _) ho)) o

class Rp (α : Type) where
  sz : Nat
  rp : Nat → St → List Value → α → Prop
  pos : 0 < sz
  len : ∀ {lo : Nat} {σ : St} {cs : List Value} {x : α}, rp lo σ cs x → cs.length = sz
  extL : ∀ {lo : Nat} {σ σ' : St} {cs : List Value} {x : α}, ExtL lo σ σ' → rp lo σ cs x → rp lo σ' cs x
  low : ∀ {lo lo' : Nat} {σ : St} {cs : List Value} {x : α}, lo' ≤ lo → rp lo σ cs x → rp lo' σ cs x
  one : ∀ {lo : Nat} {σ : St} {cs : List Value} {x : α}, rp lo σ cs x → ∀ c ∈ cs, plain c = true
theorem Rp.ext {α : Type} [Rp α] {lo : Nat} {σ σ' : St} {cs : List Value} {x : α} (hE : Ext σ σ') (h : Rp.rp lo σ cs x) : Rp.rp lo σ' cs x := Rp.extL (hE.extL lo) h

instance : Rp Int where
  sz := 1
  rp _ _ cs x := cs = [I x]
  pos := by decide
  len := by rintro _ _ _ _ rfl; rfl
  extL := fun _ h => h
  low := fun _ h => h
  one := by rintro _ _ _ _ rfl; simp [plain]
instance : Rp Bool where
  sz := 1
  rp _ _ cs x := cs = [B x]
  pos := by decide
  len := by rintro _ _ _ _ rfl; rfl
  extL := fun _ h => h
  low := fun _ h => h
  one := by rintro _ _ _ _ rfl; simp [plain]
instance : Rp UInt8 where
  sz := 1
  rp _ _ cs x := cs = [.int .u8 x.toNat]
  pos := by decide
  len := by rintro _ _ _ _ rfl; rfl
  extL := fun _ h => h
  low := fun _ h => h
  one := by rintro _ _ _ _ rfl; simp [plain]
instance : Rp ByteArray where
  sz := 1
  rp _ _ cs x := cs = [.string x]
  pos := by decide
  len := by rintro _ _ _ _ rfl; rfl
  extL := fun _ h => h
  low := fun _ h => h
  one := by rintro _ _ _ _ rfl; simp [plain]
instance {α β : Type} [Rp α] [Rp β] : Rp (α × β) where
  sz := Rp.sz α + Rp.sz β
  rp lo σ cs x := ∃ c1 c2, cs = c1 ++ c2 ∧ Rp.rp lo σ c1 x.1 ∧ Rp.rp lo σ c2 x.2
  pos := Nat.add_pos_left Rp.pos _
  len := by rintro _ _ _ _ ⟨c1, c2, rfl, h1, h2⟩; rw [List.length_append, Rp.len h1, Rp.len h2]
  extL := by rintro _ _ _ _ _ hE ⟨c1, c2, rfl, h1, h2⟩; exact ⟨c1, c2, rfl, Rp.extL hE h1, Rp.extL hE h2⟩
  low := by rintro _ _ _ _ _ hl ⟨c1, c2, rfl, h1, h2⟩; exact ⟨c1, c2, rfl, Rp.low hl h1, Rp.low hl h2⟩
  one := by
    rintro _ _ _ _ ⟨c1, c2, rfl, h1, h2⟩ c hc
    rcases List.mem_append.1 hc with h | h
    · exact Rp.one h1 c h
    · exact Rp.one h2 c h

section
variable {α β : Type} [Rp α] [Rp β]

def At (el : Nat) (σ : St) (b o : Nat) (x : α) : Prop := ∃ cs, Rp.rp el σ cs x ∧ ∀ j, (h : j < cs.length) → σ.cell b (o + j) = some cs[j]
theorem At.ext {el : Nat} {σ σ' : St} {b o : Nat} {x : α} (h : At el σ b o x) (hs : o + Rp.sz α ≤ σ.vis b) (hE : Ext σ σ') : At el σ' b o x := by
  obtain ⟨cs, h1, h2⟩ := h
  refine ⟨cs, Rp.ext hE h1, fun j hj => ?_⟩
  have := Rp.len h1
  rw [hE.cell b (o + j) (by omega)]
  exact h2 j hj

theorem At.fst {el : Nat} {σ : St} {b o : Nat} {x : α × β} (h : At el σ b o x) : At el σ b o x.1 := by
  obtain ⟨cs, ⟨c1, c2, rfl, h1, h2⟩, h3⟩ := h
  refine ⟨c1, h1, fun j hj => ?_⟩
  rw [h3 j (by rw [List.length_append]; omega), List.getElem_append_left hj]
theorem At.snd {el : Nat} {σ : St} {b o : Nat} {x : α × β} (h : At el σ b o x) : At el σ b (o + Rp.sz α) x.2 := by
  obtain ⟨cs, ⟨c1, c2, rfl, h1, h2⟩, h3⟩ := h
  refine ⟨c2, h2, fun j hj => ?_⟩
  have hl := Rp.len h1
  have := h3 (c1.length + j) (by rw [List.length_append]; omega)
  rw [Nat.add_assoc, ← hl, this, List.getElem_append_right (by omega)]
  simp
def RS (el : Nat) (σ : St) (v : Value) (xs : List α) : Prop :=
  ((∃ ad c, v = .slice ad 0 c) ∧ xs = []) ∨ ∃ b o c, v = .slice (some ⟨b, o, none⟩) xs.length c ∧ el ≤ b ∧ xs.length ≤ c ∧ o + xs.length * Rp.sz α ≤ σ.vis b ∧
    ∀ i, (h : i < xs.length) → At el σ b (o + i * Rp.sz α) xs[i]

def Rd (el : Nat) (σ : St) (v : Value) (xs : List α) : Prop :=
  ((∃ ad c, v = .slice ad 0 c) ∧ xs = []) ∨ ∃ b o c, v = .slice (some ⟨b, o, none⟩) xs.length c ∧ ∀ i, (h : i < xs.length) → At el σ b (o + i * Rp.sz α) xs[i]

def Ow (σ : St) (lo el : Nat) (v : Value) (xs : List α) : Prop :=
  (v = .slice none 0 0 ∧ xs = []) ∨ ∃ b o c C T, v = .slice (some ⟨b, o, none⟩) xs.length c ∧ lo ≤ b ∧ σ.w.heap[b]? = some (.cells C T (0, 0)) ∧ xs.length ≤ c ∧
    o + c * Rp.sz α ≤ C.size ∧ σ.vis b = 0 ∧ ∀ i, (h : i < xs.length) → At el σ b (o + i * Rp.sz α) xs[i]

def blk : Value → Option Nat
  | .slice (some a) _ _ => some a.block
  | _ => none

theorem RS.nil {el : Nat} {σ : St} : RS el σ (.slice none 0 0) ([] : List α) := .inl ⟨⟨_, _, rfl⟩, rfl⟩
theorem Ow.nil {el : Nat} {σ : St} {lo : Nat} : Ow σ lo el (.slice none 0 0) ([] : List α) := .inl ⟨rfl, rfl⟩
theorem RS.rd {el : Nat} {σ : St} {v : Value} {xs : List α} (h : RS el σ v xs) : Rd el σ v xs := by
  rcases h with h | ⟨b, o, c, h1, _, _, h2, h3⟩
  · exact .inl h
  · exact .inr ⟨b, o, c, h1, h3⟩
theorem Ow.rd {el : Nat} {σ : St} {lo : Nat} {v : Value} {xs : List α} (h : Ow σ lo el v xs) : Rd el σ v xs := by
  rcases h with h | ⟨b, o, c, C, T, h1, h2, h3, h4, h5, h6, h7⟩
  · exact .inl ⟨⟨_, _, h.1⟩, h.2⟩
  · exact .inr ⟨b, o, c, h1, h7⟩

theorem RS.ext {el : Nat} {σ σ' : St} {v : Value} {xs : List α} (h : RS el σ v xs) (hE : Ext σ σ') : RS el σ' v xs := by
  rcases h with h | ⟨b, o, c, h1, hb, hc, h2, h3⟩
  · exact .inl h
  · refine .inr ⟨b, o, c, h1, hb, hc, Nat.le_trans h2 (hE.vis b), fun i hi => (h3 i hi).ext ?_ hE⟩
    have : (i + 1) * Rp.sz α ≤ xs.length * Rp.sz α := Nat.mul_le_mul_right _ hi
    rw [Nat.add_mul] at this
    omega

def IsSl (v : Value) (m : Nat) : Prop := ∃ ad c, v = .slice ad m c
theorem Rd.isSl {el : Nat} {σ : St} {v : Value} {xs : List α} (h : Rd el σ v xs) : IsSl v xs.length := by
  rcases h with ⟨⟨ad, c, rfl⟩, rfl⟩ | ⟨b, o, c, h1, _⟩
  · exact ⟨ad, c, rfl⟩
  · exact ⟨_, _, h1⟩
theorem RS.isSl {el : Nat} {σ : St} {v : Value} {xs : List α} (h : RS el σ v xs) : IsSl v xs.length := h.rd.isSl
theorem Ow.isSl {el : Nat} {σ : St} {lo : Nat} {v : Value} {xs : List α} (h : Ow σ lo el v xs) : IsSl v xs.length := h.rd.isSl

theorem RS.extL {el : Nat} {σ σ' : St} {v : Value} {xs : List α} (h : RS el σ v xs) (hE : ExtL el σ σ') : RS el σ' v xs := by
  rcases h with h | ⟨b, o, c, h1, hb, hc, h2, h3⟩
  · exact .inl h
  · refine .inr ⟨b, o, c, h1, hb, hc, Nat.le_trans h2 (hE.vis b hb), fun i hi => ?_⟩
    obtain ⟨cs, h4, h5⟩ := h3 i hi
    refine ⟨cs, Rp.extL hE h4, fun j hj => ?_⟩
    have : (i + 1) * Rp.sz α ≤ xs.length * Rp.sz α := Nat.mul_le_mul_right _ hi
    rw [Nat.add_mul] at this
    have hl := Rp.len h4
    rw [hE.cell b _ hb (by omega)]
    exact h5 j hj
theorem At.low {lo lo' : Nat} {σ : St} {b o : Nat} {x : α} (hl : lo' ≤ lo) (h : At lo σ b o x) : At lo' σ b o x := by
  obtain ⟨cs, h1, h2⟩ := h
  exact ⟨cs, Rp.low hl h1, h2⟩
theorem RS.low {lo lo' : Nat} {σ : St} {v : Value} {xs : List α} (h : RS lo σ v xs) (hl : lo' ≤ lo) : RS lo' σ v xs := by
  rcases h with h | ⟨b, o, c, h1, hb, hc, h2, h3⟩
  · exact .inl h
  · exact .inr ⟨b, o, c, h1, Nat.le_trans hl hb, hc, h2, fun i hi => (h3 i hi).low hl⟩

instance : Rp (List α) where
  sz := 1
  rp lo σ cs x := ∃ v, cs = [v] ∧ RS lo σ v x
  pos := by decide
  len := by rintro _ _ _ _ ⟨v, rfl, _⟩; rfl
  extL := by rintro _ _ _ _ _ hE ⟨v, rfl, h⟩; exact ⟨v, rfl, h.extL hE⟩
  low := by rintro _ _ _ _ _ hl ⟨v, rfl, h⟩; exact ⟨v, rfl, h.low hl⟩
  one := by
    rintro _ _ _ _ ⟨v, rfl, h⟩ c hc
    obtain ⟨ad, cp, hv⟩ := h.isSl
    simp only [List.mem_singleton] at hc
    rw [hc, hv]; rfl

omit [Rp α] in
theorem List.some_lt {xs : List α} {i : Nat} {e : α} (h : xs[i]? = some e) : i < xs.length := (List.getElem?_eq_some_iff.1 h).1
def gidx {α : Type} (xs : List α) (a : Int) : Option α := if 0 ≤ a then xs[a.toNat]? else none
omit [Rp α] in
theorem gidx_some {xs : List α} {a : Int} {e : α} (h : gidx xs a = some e) : 0 ≤ a ∧ ∃ h : a.toNat < xs.length, xs[a.toNat] = e := by
  unfold gidx at h
  split at h
  · rename_i h0
    obtain ⟨h1, h2⟩ := List.getElem?_eq_some_iff.1 h
    exact ⟨h0, h1, h2⟩
  · cases h

structure Ix (v : Value) (a : Int) (s b o : Nat) : Prop where
  it : ∃ ob m c, v = .slice (some ⟨b, ob, none⟩) m c ∧ 0 ≤ a ∧ a.toNat < m ∧ o = ob + a.toNat * s
theorem Rd.ix {el : Nat} {σ : St} {v : Value} {xs : List α} {a : Int} {e : α} (h : Rd el σ v xs) (hg : gidx xs a = some e) : ∃ b o, Ix v a (Rp.sz α) b o ∧ At el σ b o e := by
  obtain ⟨h0, h1, h2⟩ := gidx_some hg
  rcases h with ⟨_, rfl⟩ | ⟨b, o, c, hv, hc⟩
  · simp at h1
  · exact ⟨b, o + a.toNat * Rp.sz α, ⟨o, _, c, hv, h0, h1, rfl⟩, h2 ▸ hc _ h1⟩
theorem RS.ix {el : Nat} {σ : St} {v : Value} {xs : List α} {a : Int} {e : α} (h : RS el σ v xs) (hg : gidx xs a = some e) : ∃ b o, Ix v a (Rp.sz α) b o ∧ At el σ b o e := h.rd.ix hg
theorem Ow.ix {el : Nat} {σ : St} {lo : Nat} {v : Value} {xs : List α} {a : Int} {e : α} (h : Ow σ lo el v xs) (hg : gidx xs a = some e) : ∃ b o, Ix v a (Rp.sz α) b o ∧ At el σ b o e := h.rd.ix hg

theorem At.int {el : Nat} {σ : St} {b o : Nat} {x : Int} (h : At el σ b o x) : HCell σ.w.heap b o = some (I x) := by
  obtain ⟨cs, rfl, h2⟩ := h
  rw [HCell_eq]; exact h2 0 (by simp)
theorem At.bool {el : Nat} {σ : St} {b o : Nat} {x : Bool} (h : At el σ b o x) : HCell σ.w.heap b o = some (B x) := by
  obtain ⟨cs, rfl, h2⟩ := h
  rw [HCell_eq]; exact h2 0 (by simp)
theorem At.byte {el : Nat} {σ : St} {b o : Nat} {x : UInt8} (h : At el σ b o x) : HCell σ.w.heap b o = some (.int .u8 x.toNat) := by
  obtain ⟨cs, rfl, h2⟩ := h
  rw [HCell_eq]; exact h2 0 (by simp)
theorem At.slice {el : Nat} {σ : St} {b o : Nat} {xs : List α} (h : At el σ b o xs) : ∃ v, HCell σ.w.heap b o = some v ∧ RS el σ v xs := by
  obtain ⟨cs, ⟨v, rfl, hR⟩, h2⟩ := h
  exact ⟨v, by rw [HCell_eq]; exact h2 0 (by simp), hR⟩
theorem At.cells {el : Nat} {σ : St} {b o : Nat} {x : α} (h : At el σ b o x) : ∃ cs, Rp.rp el σ cs x ∧ cs.length = Rp.sz α ∧ ∀ j, (hj : j < cs.length) → HCell σ.w.heap b (o + j) = some cs[j] := by
  obtain ⟨cs, h1, h2⟩ := h
  exact ⟨cs, h1, Rp.len h1, fun j hj => by rw [HCell_eq]; exact h2 j hj⟩
end

section
variable {P : Program} {H : Array Obj} {n : Nat} {ρ : Nat → Value} {d : Option Nat} {ty T T' E : TypeId} {pos : String} {af : Array Edge} {gd : Option (Nat × Bool)} {x y : Operand} {v : Value} {a : Int} {m b o s bt : Nat} {z : Value}

theorem rv_ix (hT : P.underlying T = some (.slice E)) (hi : TI P E z s bt) (hx : ev n ρ x = v) (hy : ev n ρ y = I a) (h : Ix v a s b o) :
    RunV P H n ρ ⟨d, .indexAddr T x y, ty, pos, af, gd⟩ (pt b o) := by
  obtain ⟨ob, m, c, rfl, h0, h1, rfl⟩ := h.it
  exact rv_indexAddr_slice hT hi hx hy h0 h1
end
end Go.Vs

namespace Go.Vs
open Go

structure Oth (S : Option Nat) (σ σ' : St) : Prop where
  block : ∀ b, b < σ.size → S ≠ some b → σ'.w.heap[b]? = σ.w.heap[b]?
  vis : ∀ b, b < σ.size → S ≠ some b → σ'.vis b = σ.vis b

structure Mod (S : Option Nat) (σ σ' : St) : Prop where
  os : σ'.w.os = σ.w.os
  tape : σ'.w.tape = σ.w.tape
  output : σ'.w.output = σ.w.output
  dr : σ.w.drawn ≤ σ'.w.drawn
  loud : σ'.loud = σ.loud
  ext : Ext σ σ'
  oth : Oth S σ σ'
theorem Mod.refl (S : Option Nat) (σ : St) : Mod S σ σ := ⟨rfl, rfl, rfl, Nat.le_refl _, rfl, Ext.refl _, ⟨fun _ _ _ => rfl, fun _ _ _ => rfl⟩⟩
theorem Mod.size {S : Option Nat} {σ σ' : St} (h : Mod S σ σ') : σ.size ≤ σ'.size := h.ext.size
theorem Mod.trans {S : Option Nat} {a b c : St} (h : Mod S a b) (k : Mod S b c) : Mod S a c :=
  ⟨k.os.trans h.os, k.tape.trans h.tape, k.output.trans h.output, Nat.le_trans h.dr k.dr, k.loud.trans h.loud, h.ext.trans k.ext, fun i hi hne => (k.oth.block i (Nat.lt_of_lt_of_le hi h.size) hne).trans (h.oth.block i hi hne),
    fun i hi hne => (k.oth.vis i (Nat.lt_of_lt_of_le hi h.size) hne).trans (h.oth.vis i hi hne)⟩
theorem Mod.step {S S' : Option Nat} {a b c : St} (h : Mod S a b) (k : Mod S' b c) (hs : S' = none ∨ S' = S ∨ ∀ i, S' = some i → a.size ≤ i) : Mod S a c := by
  have key : ∀ i, i < a.size → S ≠ some i → S' ≠ some i := by
    intro i hi hne
    rcases hs with rfl | rfl | hs
    · simp
    · exact hne
    · intro e; have := hs i e; omega
  exact ⟨k.os.trans h.os, k.tape.trans h.tape, k.output.trans h.output, Nat.le_trans h.dr k.dr, k.loud.trans h.loud, h.ext.trans k.ext,
    fun i hi hne => (k.oth.block i (Nat.lt_of_lt_of_le hi h.size) (key i hi hne)).trans (h.oth.block i hi hne),
    fun i hi hne => (k.oth.vis i (Nat.lt_of_lt_of_le hi h.size) (key i hi hne)).trans (h.oth.vis i hi hne)⟩
theorem Mod.none {S : Option Nat} {a b c : St} (h : Mod S a b) (k : Mod .none b c) : Mod S a c := h.step k (.inl rfl)
theorem Mod.some {S : Option Nat} {a b c : St} {i : Nat} (h : Mod S a b) (k : Mod (some i) b c) (hi : a.size ≤ i) : Mod S a c := h.step k (.inr (.inr (by rintro j ⟨⟩; exact hi)))
theorem Keep.mod {σ σ' : St} (h : Keep σ.size σ σ') (S : Option Nat) : Mod S σ σ' := ⟨h.os, h.tape, h.output, h.dr, h.loud, h.ext, fun b hb _ => h.block b hb, fun b hb _ => h.vis b hb⟩

theorem Keep.oth {σ σ' : St} (h : Keep σ.size σ σ') (S : Option Nat) : Oth S σ σ' := ⟨fun b hb _ => h.block b hb, fun b hb _ => h.vis b hb⟩

theorem At.same {el : Nat} {α : Type} [Rp α] {σ σ' : St} {b o : Nat} {x : α} (h : At el σ b o x) (hE : Ext σ σ') (hb : σ'.w.heap[b]? = σ.w.heap[b]?) : At el σ' b o x := by
  obtain ⟨cs, h1, h2⟩ := h
  exact ⟨cs, Rp.ext hE h1, fun j hj => by rw [show σ'.cell b (o + j) = σ.cell b (o + j) from cell_of_block hb _]; exact h2 j hj⟩

theorem lt_of_block {w : World} {b : Nat} {o : Obj} (h : w.heap[b]? = some o) : b < w.heap.size := (Array.getElem?_eq_some_iff.1 h).1

def Bx (σ : St) (b : Nat) (cs : List Value) : Prop := ∃ T, σ.w.heap[b]? = some (.cells cs.toArray T (0, 0)) ∧ σ.vis b = 0

theorem Bx.lt {σ : St} {b : Nat} {cs : List Value} (h : Bx σ b cs) : b < σ.size := lt_of_block h.choose_spec.1
theorem Ow.lt {el : Nat} {α : Type} [Rp α] {σ : St} {lo : Nat} {v : Value} {xs : List α} (h : Ow σ lo el v xs) : ∀ b, blk v = some b → b < σ.size := by
  rcases h with ⟨rfl, _⟩ | ⟨b, o, c, C, T, rfl, h2, h3, _⟩
  · intro b h; cases h
  · intro b' h; cases h; exact lt_of_block h3
theorem Ow.ge {el : Nat} {α : Type} [Rp α] {σ : St} {lo : Nat} {v : Value} {xs : List α} (h : Ow σ lo el v xs) : ∀ b, blk v = some b → lo ≤ b := by
  rcases h with ⟨rfl, _⟩ | ⟨b, o, c, C, T, rfl, h2, h3, _⟩
  · intro b h; cases h
  · intro b' h; cases h; exact h2
theorem Ow.lo {el : Nat} {α : Type} [Rp α] {σ : St} {lo lo' : Nat} {v : Value} {xs : List α} (h : Ow σ lo el v xs) (hl : lo' ≤ lo) : Ow σ lo' el v xs := by
  rcases h with h | ⟨b, o, c, C, T, h1, h2, h3⟩
  · exact .inl h
  · exact .inr ⟨b, o, c, C, T, h1, Nat.le_trans hl h2, h3⟩

theorem Bx.oth {σ σ' : St} {b : Nat} {cs : List Value} {S : Option Nat} (h : Bx σ b cs) (hO : Oth S σ σ') (hne : S ≠ some b) : Bx σ' b cs := by
  have hl := h.lt
  obtain ⟨T, h1, h2⟩ := h
  exact ⟨T, (hO.block b hl hne).trans h1, (hO.vis b hl hne).trans h2⟩
theorem Ow.oth {el : Nat} {α : Type} [Rp α] {σ σ' : St} {lo : Nat} {v : Value} {xs : List α} {S : Option Nat} (h : Ow σ lo el v xs) (hE : Ext σ σ') (hO : Oth S σ σ') (hne : S = none ∨ blk v ≠ S) : Ow σ' lo el v xs := by
  have hl := h.lt
  rcases h with h | ⟨b, o, c, C, T, rfl, h2, h3, h4, h5, h6, h7⟩
  · exact .inl h
  · have hb : b < σ.size := hl b rfl
    have hS : S ≠ some b := by
      rcases hne with rfl | h
      · simp
      · exact fun e => h e.symm
    have e1 := hO.block b hb hS
    exact .inr ⟨b, o, c, C, T, rfl, h2, e1.trans h3, h4, h5, (hO.vis b hb hS).trans h6, fun i hi => (h7 i hi).same hE e1⟩
theorem RS.mod {el : Nat} {α : Type} [Rp α] {σ σ' : St} {v : Value} {xs : List α} {S : Option Nat} (h : RS el σ v xs) (m : Mod S σ σ') : RS el σ' v xs := h.ext m.ext
theorem Ow.mod {el : Nat} {α : Type} [Rp α] {σ σ' : St} {lo : Nat} {v : Value} {xs : List α} {S : Option Nat} (h : Ow σ lo el v xs) (m : Mod S σ σ') (hne : blk v ≠ S) : Ow σ' lo el v xs := h.oth m.ext m.oth (.inr hne)
theorem Bx.mod {σ σ' : St} {b : Nat} {cs : List Value} {S : Option Nat} (h : Bx σ b cs) (m : Mod S σ σ') (hne : S ≠ some b) : Bx σ' b cs := h.oth m.oth hne
theorem Bx.cell {σ : St} {b : Nat} {cs : List Value} (h : Bx σ b cs) (k : Nat) {v : Value} (hv : cs[k]? = some v) : HCell σ.w.heap b (0 + k) = some v := by
  obtain ⟨T, h1, _⟩ := h
  unfold HCell
  rw [h1]; simpa using hv
theorem Bx.all {σ : St} {b : Nat} {cs : List Value} (h : Bx σ b cs) : ∀ j, (hj : j < cs.length) → HCell σ.w.heap b (0 + j) = some cs[j] := fun j hj =>
  h.cell j (List.getElem?_eq_some_iff.2 ⟨hj, rfl⟩)

/-! ## New blocks -/
def World.mk' (w : World) (o : Obj) (k : Nat) : World := { w with heap := w.heap.push o, drawn := w.drawn + k }

def St.new (σ : St) (o : Obj) (k : Nat) : St := ⟨World.mk' σ.w o k, σ.vis, fun b hb => σ.ok b (by
  have : (σ.w.heap.push o).size ≤ b := hb
  rw [Array.size_push] at this; omega), σ.loud⟩

theorem St.new_size (σ : St) (o : Obj) (k : Nat) : (σ.new o k).size = σ.size + 1 := by show (σ.w.heap.push o).size = _; simp
theorem St.new_old (σ : St) (o : Obj) (k b : Nat) (h : b < σ.size) : (σ.new o k).w.heap[b]? = σ.w.heap[b]? := by
  show (σ.w.heap.push o)[b]? = _
  rw [Array.getElem?_push, if_neg (by have : b < σ.w.heap.size := h; omega)]
theorem St.new_new (σ : St) (o : Obj) (k : Nat) : (σ.new o k).w.heap[σ.size]? = some o := by
  show (σ.w.heap.push o)[σ.w.heap.size]? = _
  simp
theorem St.new_keep (σ : St) (o : Obj) (k : Nat) : Keep σ.size σ (σ.new o k) :=
  ⟨rfl, rfl, rfl, Nat.le_add_right _ _, by rw [St.new_size]; omega, fun b hb => σ.new_old o k b hb, fun _ _ => rfl, rfl⟩
theorem St.new_mod (σ : St) (o : Obj) (k : Nat) : Mod none σ (σ.new o k) := (St.new_keep σ o k).mod none
theorem St.new_vis (σ : St) (o : Obj) (k : Nat) : (σ.new o k).vis σ.size = 0 := σ.ok _ (Nat.le_refl _)

/-! ## Stores -/
def wr (C : Array Value) (k : Nat) : List Value → Array Value
  | [] => C
  | v :: r => wr (C.setIfInBounds k v) (k + 1) r
theorem wr_size (vs : List Value) : ∀ (C : Array Value) (k : Nat), (wr C k vs).size = C.size := by
  induction vs with
  | nil => intro C k; rfl
  | cons v r ih => intro C k; rw [wr, ih]; simp
theorem wr_lt (vs : List Value) : ∀ (C : Array Value) (k j : Nat), j < k → (wr C k vs)[j]? = C[j]? := by
  induction vs with
  | nil => intro C k j _; rfl
  | cons v r ih =>
    intro C k j h
    rw [wr, ih _ _ _ (by omega), Array.getElem?_setIfInBounds, if_neg (by omega)]
theorem wr_ge (vs : List Value) : ∀ (C : Array Value) (k j : Nat), k + vs.length ≤ j → (wr C k vs)[j]? = C[j]? := by
  induction vs with
  | nil => intro C k j _; rfl
  | cons v r ih =>
    intro C k j h
    simp only [List.length_cons] at h
    rw [wr, ih _ _ _ (by omega), Array.getElem?_setIfInBounds, if_neg (by omega)]
theorem wr_in (vs : List Value) : ∀ (C : Array Value) (k j : Nat), k + vs.length ≤ C.size → (h : j < vs.length) → (wr C k vs)[k + j]? = some vs[j] := by
  induction vs with
  | nil => intro C k j _ h; simp at h
  | cons v r ih =>
    intro C k j hs h
    simp only [List.length_cons] at hs h
    cases j with
    | zero =>
      rw [wr, wr_lt _ _ _ _ (by omega), Array.getElem?_setIfInBounds, if_pos (by omega), if_pos (by omega)]
      rfl
    | succ j =>
      have := ih (C.setIfInBounds k v) (k + 1) j (by simp; omega) (by omega)
      rw [wr, show k + (j + 1) = k + 1 + j by omega, this]
      rfl

def World.put (w : World) (b : Nat) (o : Obj) : World := { w with heap := w.heap.setIfInBounds b o }
theorem World.put_self {w : World} {b : Nat} {o : Obj} (h : w.heap[b]? = some o) : World.put w b o = w := by
  obtain ⟨hb, e⟩ := Array.getElem?_eq_some_iff.1 h
  unfold World.put
  have : w.heap.setIfInBounds b o = w.heap := by
    apply Array.ext_getElem?
    intro i
    rw [Array.getElem?_setIfInBounds]
    split
    · rename_i hi; subst hi; rw [h]
    · rfl
  rw [this]
theorem World.put_at {w : World} {b : Nat} (o : Obj) (h : b < w.heap.size) : (World.put w b o).heap[b]? = some o := by
  show (w.heap.setIfInBounds b o)[b]? = _
  rw [Array.getElem?_setIfInBounds, if_pos rfl, if_pos h]
theorem World.put_ne {w : World} {b c : Nat} (o : Obj) (h : b ≠ c) : (World.put w b o).heap[c]? = w.heap[c]? := by
  show (w.heap.setIfInBounds b o)[c]? = _
  rw [Array.getElem?_setIfInBounds, if_neg h]
theorem World.put_put (w : World) (b : Nat) (o o' : Obj) : World.put (World.put w b o) b o' = World.put w b o' := by
  unfold World.put
  have : (w.heap.setIfInBounds b o).setIfInBounds b o' = w.heap.setIfInBounds b o' := by
    apply Array.ext_getElem?
    intro i
    simp only [Array.getElem?_setIfInBounds, Array.size_setIfInBounds]
    split
    · rfl
    · rfl
  rw [this]
theorem World.put_size (w : World) (b : Nat) (o : Obj) : (World.put w b o).heap.size = w.heap.size := by
  show (w.heap.setIfInBounds b o).size = _
  simp

theorem setCell_put {w : World} {b k : Nat} {C : Array Value} {T : TypeId} (h : w.heap[b]? = some (.cells C T (0, 0))) (v : Value) :
    w.setCell ⟨b, k, none⟩ v = World.put w b (.cells (C.setIfInBounds k v) T (0, 0)) := by
  obtain ⟨hb, e⟩ := Array.getElem?_eq_some_iff.1 h
  unfold World.setCell World.put
  simp only [Option.isSome_none, Bool.false_eq_true, if_false]
  congr 1
  apply Array.ext_getElem?
  intro i
  rw [Array.getElem?_modify, Array.getElem?_setIfInBounds]
  split
  · rename_i hi; subst hi; rw [h]; simp
  · rfl

theorem run_storeCells {P : Program} (b o : Nat) (T : TypeId) : ∀ (vs : List Value) (i : Nat) (w : World) (C : Array Value), w.heap[b]? = some (.cells C T (0, 0)) →
    o + i + vs.length ≤ C.size → (∀ v ∈ vs, plain v = true) →
    (storeCells ⟨b, o, none⟩ vs i).run P w = .ok () (World.put w b (.cells (wr C (o + i) vs) T (0, 0)))
  | [], i, w, C, h, _, _ => by
    simp only [storeCells, wr, World.put_self h]; rfl
  | v :: r, i, w, C, h, hs, hp => by
    simp only [List.length_cons] at hs
    have hv := hp v (by simp)
    have hb := lt_of_block h
    have hc : w.cell? ⟨b, o + i, none⟩ = C[o + i]? := by simp [World.cell?, h]
    have hc' : C[o + i]? = some C[o + i] := by rw [Array.getElem?_eq_some_iff]; exact ⟨by omega, rfl⟩
    have hf : w.frozen? ⟨b, o + i, none⟩ = false := by simp [World.frozen?, h]
    have ih := run_storeCells (P := P) b o T r (i + 1) (World.put w b (.cells (C.setIfInBounds (o + i) v) T (0, 0))) (C.setIfInBounds (o + i) v)
      (World.put_at _ hb) (by simp; omega) (fun u hu => hp u (by simp [hu]))
    have hrun : (store ((⟨b, o, none⟩ : Addr).add i) v).run P w = .ok () (World.put w b (.cells (C.setIfInBounds (o + i) v) T (0, 0))) := by
      rw [add_plain]
      cases v <;> first | (simp [plain] at hv; done) | (simp only [store, Sem.run, hc, hc', hf, setCell_put h]; rfl)
    simp only [storeCells, Sem.run_bind, hrun, Result.andThen_ok, ih, World.put_put]
    rw [wr]; rfl

def St.put (σ : St) (b : Nat) (o : Obj) : St := ⟨World.put σ.w b o, σ.vis, fun c hc => σ.ok c (by rw [World.put_size] at hc; exact hc), σ.loud⟩
theorem St.put_ext {σ : St} {b : Nat} {o : Obj} (h : σ.vis b = 0) : Ext σ (σ.put b o) := by
  refine ⟨Nat.le_of_eq (World.put_size _ _ _).symm, fun c hk => ?_, fun _ => Nat.le_refl _⟩
  by_cases hc : b = c
  · subst hc; rw [h] at hk; exact absurd hk (Nat.not_lt_zero _)
  · exact World.put_ne o hc
theorem St.put_oth {σ : St} {b : Nat} {o : Obj} : Oth (some b) σ (σ.put b o) :=
  ⟨fun c _ hne => World.put_ne o (fun e => hne (by rw [e])), fun _ _ _ => rfl⟩

theorem St.put_mod {σ : St} {b : Nat} {o : Obj} (h : σ.vis b = 0) : Mod (some b) σ (σ.put b o) := ⟨rfl, rfl, rfl, Nat.le_refl _, rfl, St.put_ext h, St.put_oth⟩

/-! ## Publishing -/
def St.pub (σ : St) (b e : Nat) (hb : b < σ.size) : St := ⟨σ.w, fun c => if c = b then max (σ.vis b) e else σ.vis c, fun c hc => by
  rw [if_neg (by have : σ.size ≤ c := hc; omega)]; exact σ.ok c hc, σ.loud⟩
theorem St.pub_ext {σ : St} {b e : Nat} (hb : b < σ.size) : Ext σ (σ.pub b e hb) := by
  refine ⟨Nat.le_refl _, fun _ _ => rfl, fun c => ?_⟩
  show _ ≤ (if c = b then max (σ.vis b) e else σ.vis c)
  split
  · rename_i h; subst h; omega
  · exact Nat.le_refl _
end Go.Vs

namespace Go.Vs
open Go

section
variable {P : Program} {ops : Array Oper} {Q : Exit → Act → World → Prop} {n d : Nat} {ρ : Nat → Value} {σ : St} {v : Value} {rest : List Oper}
variable {ty T T' E : TypeId} {pos : String} {af : Array Edge} {x y : Operand} {a : Int}

def RunW (P : Program) (w : World) (n : Nat) (ρ : Nat → Value) (o : Oper) (v : Value) (w' : World) : Prop := (execOp (ev n ρ) o).run P w = .ok (.value v) w'
def RunS (P : Program) (w : World) (n : Nat) (ρ : Nat → Value) (o : Oper) (w' : World) : Prop := (execOp (ev n ρ) o).run P w = .ok .skip w'

theorem st_w {op : Op} {gd : Option (Nat × Bool)} {w w' : World} (hw : Region.wanted ⟨some d, op, ty, pos, af, gd⟩ (yv ops n ρ) = true) (hr : RunW P w n ρ ⟨some d, op, ty, pos, af, gd⟩ v w')
    (k : wpList P ops Q rest (fr n (upd ρ d v)) w') : wpList P ops Q (⟨some d, op, ty, pos, af, gd⟩ :: rest) (fr n ρ) w := by
  unfold wpList
  rw [yielded_fr, if_pos hw]
  refine .inl ?_
  unfold Oper.wp
  rw [fr_eval, hr]
  simp only [Oper.upon_value, fr_put]
  exact k
theorem st_s {op : Op} {gd : Option (Nat × Bool)} {w w' : World} (hw : Region.wanted ⟨none, op, ty, pos, af, gd⟩ (yv ops n ρ) = true) (hr : RunS P w n ρ ⟨none, op, ty, pos, af, gd⟩ w')
    (k : wpList P ops Q rest (fr n ρ) w') : wpList P ops Q (⟨none, op, ty, pos, af, gd⟩ :: rest) (fr n ρ) w := by
  unfold wpList
  rw [yielded_fr, if_pos hw]
  refine .inl ?_
  unfold Oper.wp
  rw [fr_eval, hr]
  simp only [Oper.upon_skip, fr_put_none]
  exact k

def wrL (cs : List Value) (k : Nat) : List Value → List Value
  | [] => cs
  | v :: r => wrL (cs.set k v) (k + 1) r
theorem wr_list (vs : List Value) : ∀ (cs : List Value) (k : Nat), wr cs.toArray k vs = (wrL cs k vs).toArray := by
  induction vs with
  | nil => intro cs k; rfl
  | cons v r ih => intro cs k; rw [wr, wrL, ← ih]; simp

theorem run_call {f : FuncId} {args : List Value} {xs : Array Operand} {Ts : Array TypeId} {dst : Option Nat} {gd : Option (Nat × Bool)} {w : World}
    (hf : ∃ fn c, P.funcs[f]? = some fn ∧ (fn.name == "runtime.NumGoroutine") = false ∧ fn.body = some c) (hx : xs.toList.map (ev n ρ) = args) :
    (execOp (ev n ρ) ⟨dst, .call ⟨.value (.func f), xs, Ts⟩, ty, pos, af, gd⟩).run P w = .ok (.enter f args.toArray) w := by
  obtain ⟨fn, c, h1, h2, h3⟩ := hf
  replace hx : xs.map (ev n ρ) = args.toArray := by rw [← hx, ← Array.toList_map]
  simp only [execOp, resolve, ev, Deferred.ofValue, Sem.run_bind, Sem.run_pure, Result.andThen_ok, invoke, callFunc, run_program, hx, h1, h2, h3]
  simp

end

/-! ## Regions, blocks, loops -/
section
variable {P : Program} {Q : Exit → Act → World → Prop} {n : Nat} {ρ : Nat → Value} {σ : St} {w : World}

theorem rg {id : Nat} {l : List Oper} (h : wpList P l.toArray Q l (fr n ρ) w) : (Code.region id l.toArray false).wp P Q (fr n ρ) w := wp_region_lit h
theorem seq {x y : Code} (h : x.wp P (Exit.then (y.wp P Q) Q) (fr n ρ) w) : (Code.seq x y).wp P Q (fr n ρ) w := wp_seq h
end
end Go.Vs

namespace Go.Vs
open Go

abbrev Sl {α : Type} (a : Option Addr) (xs : List α) (c : Nat) : Value := .slice a xs.length c

section
variable {α : Type} [Rp α]

theorem Rd.row {el : Nat} {σ : St} {v : Value} {xs : List α} (h : Rd el σ v xs) : ∃ L : List Value, L.length = xs.length * Rp.sz α ∧
    (∀ i, (hi : i < xs.length) → ∃ cs, Rp.rp el σ cs xs[i] ∧ ∀ j, (hj : j < cs.length) → L[i * Rp.sz α + j]? = some cs[j]) ∧
    (((∃ ad c, v = .slice ad 0 c) ∧ xs = []) ∨ ∃ b o c, v = .slice (some ⟨b, o, none⟩) xs.length c ∧ ∀ j, (hj : j < L.length) → σ.w.cell? ⟨b, o + j, none⟩ = some L[j]) := by
  rcases h with ⟨hv, rfl⟩ | ⟨b, o, c, rfl, h⟩
  · exact ⟨[], by simp, fun i hi => by simp at hi, .inl ⟨hv, rfl⟩⟩
  · have key : ∀ k, k < xs.length * Rp.sz α → ∃ u, σ.w.cell? ⟨b, o + k, none⟩ = some u := by
      intro k hk
      have hp : 0 < Rp.sz α := Rp.pos
      have hq : k / Rp.sz α < xs.length := (Nat.div_lt_iff_lt_mul hp).2 hk
      obtain ⟨cs, h1, h2⟩ := h _ hq
      have hm := Nat.mod_lt k hp
      have := h2 (k % Rp.sz α) (by rw [Rp.len h1]; exact hm)
      have e : o + k / Rp.sz α * Rp.sz α + k % Rp.sz α = o + k := by
        have := Nat.div_add_mod k (Rp.sz α)
        rw [Nat.mul_comm] at this; omega
      rw [e] at this
      exact ⟨_, this⟩
    refine ⟨(List.range (xs.length * Rp.sz α)).map fun k => (σ.w.cell? ⟨b, o + k, none⟩).getD undef, by simp, fun i hi => ?_, .inr ⟨b, o, c, rfl, fun j hj => ?_⟩⟩
    · obtain ⟨cs, h1, h2⟩ := h i hi
      refine ⟨cs, h1, fun j hj => ?_⟩
      have hl := Rp.len h1
      have : (i + 1) * Rp.sz α ≤ xs.length * Rp.sz α := Nat.mul_le_mul_right _ hi
      rw [Nat.add_mul] at this
      have e := h2 j hj
      rw [Nat.add_assoc] at e
      simp only [List.getElem?_map]
      rw [List.getElem?_range (by omega)]
      simp only [Option.map_some]
      rw [show σ.w.cell? ⟨b, o + (i * Rp.sz α + j), none⟩ = some cs[j] from e]
      rfl
    · simp only [List.length_map, List.length_range] at hj
      obtain ⟨u, hu⟩ := key j hj
      simp [hu]

theorem Rd.plain {el : Nat} {σ : St} {xs : List α} {L : List Value} (h1 : L.length = xs.length * Rp.sz α)
    (h2 : ∀ i, (hi : i < xs.length) → ∃ cs, Rp.rp el σ cs xs[i] ∧ ∀ j, (hj : j < cs.length) → L[i * Rp.sz α + j]? = some cs[j]) : ∀ u ∈ L, plain u = true := by
  intro u hu
  obtain ⟨k, hk, rfl⟩ := List.mem_iff_getElem.1 hu
  have hp : 0 < Rp.sz α := Rp.pos
  have hq : k / Rp.sz α < xs.length := (Nat.div_lt_iff_lt_mul hp).2 (by omega)
  obtain ⟨cs, h3, h4⟩ := h2 _ hq
  have hm := Nat.mod_lt k hp
  have := h4 (k % Rp.sz α) (by rw [Rp.len h3]; exact hm)
  have e : k / Rp.sz α * Rp.sz α + k % Rp.sz α = k := by
    have := Nat.div_add_mod k (Rp.sz α)
    rw [Nat.mul_comm] at this; omega
  rw [e, List.getElem?_eq_getElem hk] at this
  rw [Option.some.inj this]
  exact Rp.one h3 _ (List.getElem_mem _)

theorem run_firstCells {P : Program} {σ : St} {v : Value} {xs : List α} {L : List Value} (h1 : L.length = xs.length * Rp.sz α)
    (h : ((∃ ad c, v = .slice ad 0 c) ∧ xs = []) ∨ ∃ b o c, v = .slice (some ⟨b, o, none⟩) xs.length c ∧ ∀ j, (hj : j < L.length) → σ.w.cell? ⟨b, o + j, none⟩ = some L[j]) (w : World) (hw : w.heap = σ.w.heap) :
    (Builtin.firstCells (Rp.sz α) xs.length v).run P w = .ok L.toArray w := by
  rcases h with ⟨⟨ad, c, rfl⟩, rfl⟩ | ⟨b, o, c, rfl, h⟩
  · have : L = [] := List.eq_nil_of_length_eq_zero (by simpa using h1)
    subst this
    cases ad with
    | none => rfl
    | some a => simp only [List.length_nil, Builtin.firstCells, loadCells, Nat.zero_mul]; rfl
  · have := run_loadCellsFrom (P := P) w b o (xs.length * Rp.sz α) 0 L [] h1 (fun j hj => by
      have := h j hj
      simp only [Nat.zero_add]
      rw [← this]
      simp only [World.cell?, hw])
    simpa [Builtin.firstCells, loadCells] using this

theorem growBy_le (need : Nat) : ∀ (r c : Nat), c ≤ 2 * need + 300 → Builtin.growBy need r c ≤ 2 * need + 300
  | 0, c, h => by simpa [Builtin.growBy] using h
  | r + 1, c, h => by
    unfold Builtin.growBy
    split
    · exact h
    · exact growBy_le need r _ (by omega)
theorem nextslicecap_le {need c : Nat} (h : c < need) : Builtin.nextslicecap need c ≤ 2 * need + 300 := by
  unfold Builtin.nextslicecap
  split
  · omega
  · split
    · omega
    · exact growBy_le _ _ _ (by omega)

theorem At.put {el : Nat} {σ : St} {b o : Nat} {C C' : Array Value} {T : TypeId} {x : α} (h : At el σ b o x) (hb : σ.w.heap[b]? = some (.cells C T (0, 0))) (hv : σ.vis b = 0)
    (hC : ∀ j, j < Rp.sz α → C'[o + j]? = C[o + j]?) : At el (σ.put b (.cells C' T (0, 0))) b o x := by
  obtain ⟨cs, h1, h2⟩ := h
  refine ⟨cs, Rp.ext (St.put_ext hv) h1, fun j hj => ?_⟩
  have e := h2 j hj
  have e1 : (σ.put b (.cells C' T (0, 0))).cell b (o + j) = C'[o + j]? := by
    show (World.put σ.w b _).cell? _ = _
    simp only [World.cell?, World.put_at _ (lt_of_block hb), Option.isSome_none, Bool.false_eq_true, if_false]
  have e2 : σ.cell b (o + j) = C[o + j]? := by
    show σ.w.cell? _ = _
    simp only [World.cell?, hb, Option.isSome_none, Bool.false_eq_true, if_false]
  rw [e1, hC j (by rw [← Rp.len h1]; exact hj), ← e2, e]
theorem At.ofCells {el : Nat} {σ : St} {b o : Nat} {C : Array Value} {T : TypeId} {f : Nat × Nat} {x : α} {cs : List Value} (hb : σ.w.heap[b]? = some (.cells C T f)) (hr : Rp.rp el σ cs x)
    (hC : ∀ j, (hj : j < cs.length) → C[o + j]? = some cs[j]) : At el σ b o x := by
  refine ⟨cs, hr, fun j hj => ?_⟩
  show σ.w.cell? _ = _
  simp only [World.cell?, hb, Option.isSome_none, Bool.false_eq_true, if_false]
  exact hC j hj
end

section
variable {P : Program} {ops : Array Oper} {Q : Exit → Act → World → Prop} {n d : Nat} {ρ : Nat → Value} {σ : St} {u v : Value} {rest : List Oper}
variable {ty T T' E E' : TypeId} {pos : String} {af : Array Edge} {x y : Operand} {a : Int} {α : Type} [Rp α] {xs ys : List α} {z : Value} {s bt lo : Nat}

theorem run_append {el : Nat} (hT : P.underlying T = some (.slice E)) (hT' : P.underlying T' = some (.slice E')) (hi : TI P E z s bt) (hs : s = Rp.sz α) (hzs : z.cells.size = s) (hbt : bt ≤ 1024)
    (hO : Ow σ lo el v xs) (hS : Rd el σ u ys) (hlen : xs.length + ys.length ≤ 2147483648) (hlo : lo ≤ σ.size) :
    ∃ a' c' σ', (Builtin.append_ #[T, T'] ty #[v, u]).run P σ.w = .ok (Sl a' (xs ++ ys) c') σ'.w ∧ Mod (blk v) σ σ' ∧ Ow σ' lo el (Sl a' (xs ++ ys) c') (xs ++ ys) ∧
      (blk (Sl a' (xs ++ ys) c') = blk v ∨ ∀ b, blk (Sl a' (xs ++ ys) c') = some b → σ.size ≤ b) ∧ ∀ ad0 m0 cp0, v = .slice ad0 m0 cp0 → xs.length + ys.length ≤ cp0 → c' = cp0 := by
  obtain ⟨i0, hi1, hi2, hi3, hi4⟩ := hi.it
  have hTI := hi
  obtain ⟨L, hL1, hL2, hL3⟩ := hS.row
  obtain ⟨K, hK1, hK2, hK3⟩ := hO.rd.row
  have hpl := Rd.plain hL1 hL2
  subst hs
  have hlenOf : ∀ w, (Builtin.lenOf u).run P w = .ok ys.length w := by
    intro w
    obtain ⟨ad, c, rfl⟩ := hS.isSl
    rfl
  obtain ⟨ad, cp, hvs⟩ := hO.isSl
  by_cases hcap : xs.length + ys.length ≤ cp
  · -- it fits
    rcases hO with ⟨rfl, rfl⟩ | ⟨b, o, c, C, T0, rfl, h2, h3, h4, h5, h6, h7⟩
    · cases hvs
      have hy : ys = [] := List.eq_nil_of_length_eq_zero (by simpa using hcap)
      subst hy
      refine ⟨none, 0, σ, ?_, Mod.refl _ _, Ow.nil, .inl rfl, by rintro _ _ _ ⟨⟩ _; rfl⟩
      have hf := run_firstCells (P := P) hL1 hL3 σ.w rfl
      simp only [List.length_nil] at hf
      simp only [Builtin.append_, List.getElem?_toArray, List.getElem?_cons_zero, List.getElem?_cons_succ, underlying, hT, hT', Sem.run_bind, run_program, Result.andThen_ok, Sem.run_pure, run_typeInfo hTI, hlenOf,
        if_true, Bool.false_eq_true, if_false, Bool.not_false, List.length_nil, Nat.add_zero, Nat.le_refl, hf]
      rfl
    · cases hvs
      have hend : o + xs.length * Rp.sz α + L.length ≤ C.size := by
        have : (xs.length + ys.length) * Rp.sz α ≤ cp * Rp.sz α := Nat.mul_le_mul_right _ hcap
        rw [Nat.add_mul] at this; omega
      have hst := run_storeCells (P := P) b (o + xs.length * Rp.sz α) T0 L 0 σ.w C h3 (by simpa using hend) hpl
      simp only [Nat.add_zero] at hst
      refine ⟨some ⟨b, o, none⟩, cp, σ.put b (.cells (wr C (o + xs.length * Rp.sz α) L) T0 (0, 0)), ?_, ?_, ?_, .inl rfl, by rintro _ _ _ ⟨⟩ _; rfl⟩
      · simp only [Builtin.append_, List.getElem?_toArray, List.getElem?_cons_zero, List.getElem?_cons_succ, underlying, hT, hT', Sem.run_bind, run_program, Result.andThen_ok, Sem.run_pure, run_typeInfo hTI, hlenOf,
          hcap, if_true, Bool.false_eq_true, if_false, Bool.not_false, run_firstCells hL1 hL3 σ.w rfl, add_plain, hst, Sl, List.length_append]
        rfl
      · exact St.put_mod h6
      · refine .inr ⟨b, o, cp, _, T0, rfl, h2, World.put_at _ (lt_of_block h3), by rw [List.length_append]; exact hcap, by rw [wr_size]; exact h5, h6, fun i hi => ?_⟩
        by_cases hix : i < xs.length
        · rw [List.getElem_append_left hix]
          have : (i + 1) * Rp.sz α ≤ xs.length * Rp.sz α := Nat.mul_le_mul_right _ hix
          rw [Nat.add_mul] at this
          exact (h7 i hix).put h3 h6 (fun j hj => wr_lt _ _ _ _ (by omega))
        · rw [List.getElem_append_right (by omega)]
          rw [List.length_append] at hi
          obtain ⟨cs, hc1, hc2⟩ := hL2 (i - xs.length) (by omega)
          refine At.ofCells (World.put_at _ (lt_of_block h3)) (Rp.ext (St.put_ext h6) hc1) (fun j hj => ?_)
          have hl := Rp.len hc1
          have hlt : (i - xs.length) * Rp.sz α + j < L.length := by
            have : (i - xs.length + 1) * Rp.sz α ≤ ys.length * Rp.sz α := Nat.mul_le_mul_right _ (by omega)
            rw [Nat.add_mul] at this; omega
          have e := wr_in L C (o + xs.length * Rp.sz α) ((i - xs.length) * Rp.sz α + j) hend hlt
          have e2 := hc2 j hj
          rw [List.getElem?_eq_getElem hlt] at e2
          have e3 : o + i * Rp.sz α + j = o + xs.length * Rp.sz α + ((i - xs.length) * Rp.sz α + j) := by
            have : i * Rp.sz α = xs.length * Rp.sz α + (i - xs.length) * Rp.sz α := by rw [← Nat.add_mul]; congr 1; omega
            omega
          rw [e3, e, e2]
  · -- a new block
    have hn := nextslicecap_le (need := xs.length + ys.length) (c := cp) (by omega)
    have hbig : ¬ Builtin.nextslicecap (xs.length + ys.length) cp * bt > 2 ^ 48 := by
      have h1 : Builtin.nextslicecap (xs.length + ys.length) cp * bt ≤ (2 * (xs.length + ys.length) + 300) * 1024 := Nat.mul_le_mul hn hbt
      have h2 : (2 : Nat) ^ 48 = 281474976710656 := by decide
      omega
    have hmax : ¬ (((xs.length + ys.length : Nat) : Int) > IntKind.i64.max ∧ (false = true ∨ bt = 0)) := by
      have : IntKind.i64.max = 9223372036854775807 := by decide
      omega
    have hmax' : ¬ (((xs.length + ys.length : Nat) : Int) > IntKind.i64.max) := by
      have : IntKind.i64.max = 9223372036854775807 := by decide
      omega
    let q : Question := .appendCap (xs.length + ys.length) cp E
    let cap' := q.cut (σ.w.tape σ.w.drawn q)
    have hcap' : xs.length + ys.length ≤ cap' := by
      show _ ≤ Question.cut (.appendCap (xs.length + ys.length) cp E) _
      simp only [Question.cut]; omega
    let Z := Builtin.zeroCells z.cells (cap' - (xs.length + ys.length))
    have hZ : Z.size = (cap' - (xs.length + ys.length)) * z.cells.size := by show (Builtin.zeroCells _ _).size = _; simp [Builtin.zeroCells]
    let R : List Value := K ++ L ++ Z.toList
    let w1 : World := { σ.w with drawn := σ.w.drawn + 1 }
    have hR : (K.toArray ++ L.toArray ++ Z) = R.toArray := by
      apply Array.ext'
      simp [R]
    have hf1 := run_firstCells (P := P) (σ := σ) (v := v) hK1 hK3 w1 rfl
    have hf2 := run_firstCells (P := P) (σ := σ) (v := u) hL1 hL3 w1 rfl
    have hroom : (askRoom (cap' * bt)).run P w1 = .ok () w1 := by
      unfold askRoom; split <;> rfl
    have hch : (choose (.appendCap (xs.length + ys.length) cp E)).run P σ.w = .ok cap' w1 := by
      simp [choose, Sem.run, Question.forced, cap', q, w1]
    have hti : (typeInfo E).run P = fun w => .ok i0 w := by
      funext w; simp [typeInfo, hi1]
    have hrun : (Builtin.append_ #[T, T'] ty #[v, u]).run P σ.w = .ok (Sl (some ⟨σ.size, 0, none⟩) (xs ++ ys) cap') (σ.new (.cells R.toArray E (0, 0)) 1).w := by
      subst hvs
      simp only [Builtin.append_, List.getElem?_toArray, List.getElem?_cons_zero, List.getElem?_cons_succ, underlying, hT, hT', Sem.run_bind, run_program, Result.andThen_ok, Sem.run_pure, run_typeInfo hTI, hlenOf,
        hcap, if_true, Bool.false_eq_true, if_false, Bool.not_false, hmax', false_and, hti, hi4, hbig, hch, hroom, hf1, hf2, run_zero hTI, Sl, List.length_append]
      rw [show (K.toArray ++ L.toArray ++ Builtin.zeroCells z.cells (cap' - (xs.length + ys.length))) = R.toArray from hR]
      rfl
    have hnew := σ.new_new (.cells R.toArray E (0, 0)) 1
    refine ⟨_, cap', _, hrun, (σ.new_mod _ 1).step (Mod.refl _ _) (.inl rfl) |> fun h => ⟨h.os, h.tape, h.output, h.dr, h.loud, h.ext, ⟨fun b hb _ => h.oth.block b hb (by simp), fun b hb _ => h.oth.vis b hb (by simp)⟩⟩,
      .inr ⟨σ.size, 0, cap', R.toArray, E, rfl, hlo, hnew, by rw [List.length_append]; exact hcap', ?_, σ.new_vis _ 1, fun i hi => ?_⟩, .inr (by rintro b ⟨⟩; exact Nat.le_refl _), fun ad0 m0 cp0 e h => absurd h (by rw [hvs] at e; cases e; exact hcap)⟩
    · simp only [R, List.size_toArray, List.length_append, hK1, hL1, Array.length_toList, hZ, hzs, Nat.zero_add]
      rw [← Nat.add_mul, ← Nat.add_mul]
      exact Nat.mul_le_mul_right _ (by omega)
    · have hE := (σ.new_mod (.cells R.toArray E (0, 0)) 1).ext
      by_cases hix : i < xs.length
      · rw [List.getElem_append_left hix]
        obtain ⟨cs, hc1, hc2⟩ := hK2 i hix
        refine At.ofCells hnew (Rp.ext hE hc1) (fun j hj => ?_)
        have e2 := hc2 j hj
        have hlt := List.some_lt e2
        simp only [R, Nat.zero_add, List.getElem?_toArray, List.append_assoc]
        rw [List.getElem?_append_left hlt, e2]
      · rw [List.getElem_append_right (by omega)]
        rw [List.length_append] at hi
        obtain ⟨cs, hc1, hc2⟩ := hL2 (i - xs.length) (by omega)
        refine At.ofCells hnew (Rp.ext hE hc1) (fun j hj => ?_)
        have e2 := hc2 j hj
        have hlt := List.some_lt e2
        have e3 : i * Rp.sz α + j = K.length + ((i - xs.length) * Rp.sz α + j) := by
          have : i * Rp.sz α = xs.length * Rp.sz α + (i - xs.length) * Rp.sz α := by rw [← Nat.add_mul]; congr 1; omega
          omega
        simp only [R, Nat.zero_add, List.getElem?_toArray, List.append_assoc]
        rw [e3, List.getElem?_append_right (by omega), Nat.add_sub_cancel_left, List.getElem?_append_left hlt, e2]
end
end Go.Vs

namespace Go.Vs
open Go

section
variable {P : Program} {ops : Array Oper} {Q : Exit → Act → World → Prop} {n d : Nat} {ρ : Nat → Value} {σ : St} {u v : Value} {rest : List Oper}
variable {ty T T' E E' : TypeId} {pos : String} {af : Array Edge} {x y : Operand} {a b : Int} {α : Type} [Rp α] {xs ys : List α} {z : Value} {s bt lo : Nat} {gd : Option (Nat × Bool)} {H : Array Obj} {dst : Option Nat}

def gapp {α : Type} (xs ys : List α) : Option (List α) := if xs.length + ys.length ≤ 2147483648 then some (xs ++ ys) else none
theorem gapp_some {α : Type} {xs ys r : List α} (h : gapp xs ys = some r) : xs.length + ys.length ≤ 2147483648 ∧ r = xs ++ ys := by
  unfold gapp at h
  split at h
  · exact ⟨by assumption, (Option.some.inj h).symm⟩
  · cases h

inductive Flat (el : Nat) (σ : St) : List Value → List α → Prop
  | nil : Flat el σ [] []
  | cons {c cs : List Value} {x : α} {xs : List α} : Rp.rp el σ c x → Flat el σ cs xs → Flat el σ (c ++ cs) (x :: xs)
theorem Flat.length {el : Nat} {cs : List Value} {xs : List α} (h : Flat el σ cs xs) : cs.length = xs.length * Rp.sz α := by
  induction h with
  | nil => simp
  | cons h1 h2 ih => rw [List.length_append, ih, Rp.len h1, List.length_cons, Nat.add_mul]; omega
theorem Flat.get {el : Nat} {cs : List Value} {xs : List α} (h : Flat el σ cs xs) : ∀ i, (hi : i < xs.length) → ∃ c, Rp.rp el σ c xs[i] ∧ ∀ j, (hj : j < c.length) → cs[i * Rp.sz α + j]? = some c[j] := by
  induction h with
  | nil => intro i hi; simp at hi
  | @cons c cs x xs h1 h2 ih =>
    intro i hi
    cases i with
    | zero =>
      refine ⟨c, h1, fun j hj => ?_⟩
      rw [Nat.zero_mul, Nat.zero_add, List.getElem?_append_left hj]
      simp [hj]
    | succ i =>
      obtain ⟨c', h3, h4⟩ := ih i (by simpa using hi)
      refine ⟨c', h3, fun j hj => ?_⟩
      have := Rp.len h1
      rw [List.getElem?_append_right (by rw [Nat.add_mul]; omega), show (i + 1) * Rp.sz α + j - c.length = i * Rp.sz α + j by rw [Nat.add_mul]; omega]
      exact h4 j hj
theorem Flat.ext {el : Nat} {σ' : St} {cs : List Value} {xs : List α} (h : Flat el σ cs xs) (hE : Ext σ σ') : Flat el σ' cs xs := by
  induction h with
  | nil => exact .nil
  | cons h1 h2 ih => exact .cons (Rp.ext hE h1) ih
theorem Bx.ow {el : Nat} {bl : Nat} {cs : List Value} (h : Bx σ bl cs) (hf : Flat el σ cs xs) (hlo : lo ≤ bl) : Ow σ lo el (Sl (some ⟨bl, 0, none⟩) xs xs.length) xs := by
  obtain ⟨T, h1, h2⟩ := h
  refine .inr ⟨bl, 0, xs.length, cs.toArray, T, rfl, hlo, h1, Nat.le_refl _, ?_, h2, fun i hi => ?_⟩
  · simp [hf.length]
  · obtain ⟨c, h3, h4⟩ := hf.get i hi
    exact At.ofCells h1 h3 (fun j hj => by simpa using h4 j hj)

theorem flat_ints {el : Nat} (xs : List Int) : Flat el σ (xs.map I) xs := by
  induction xs with
  | nil => exact .nil
  | cons x xs ih => exact Flat.cons (c := [I x]) rfl ih

theorem run_buildSlice {el : Nat} {len : Nat} {parts : Array (Nat × Operand)} {ps : List (Nat × Value)} {cs : List Value} (hT : P.underlying T = some (.slice E)) (hi : TI P E z s bt)
    (hbig : Nat.ble (len * s) 16777216 = true) (hp : parts.toList.map (fun p => (p.1, ev n ρ p.2)) = ps)
    (hfill : Instr.fill (fun i => some (i * s, s)) ((Array.range (len * s)).map (fun k => (if len * s = 0 then #[] else z.cells)[k % (if len * s = 0 then #[] else z.cells).size]!)) ps = some cs.toArray)
    (hf : Flat el σ cs xs) (hl : xs.length = len) (hlo : lo ≤ σ.size) :
    ∃ (b : Nat) (σ' : St), σ.size = b ∧ RunW P σ.w n ρ ⟨dst, .buildSlice T len parts, ty, pos, af, gd⟩ (Sl (some ⟨b, 0, none⟩) xs len) σ'.w ∧ Mod none σ σ' ∧ Ow σ' lo el (Sl (some ⟨b, 0, none⟩) xs len) xs := by
  have hbx : Bx (σ.new (.cells cs.toArray E (0, 0)) 0) σ.size cs := ⟨E, St.new_new _ _ _, St.new_vis _ _ _⟩
  have hm := σ.new_mod (.cells cs.toArray E (0, 0)) 0
  refine ⟨σ.size, σ.new (.cells cs.toArray E (0, 0)) 0, rfl, ?_, hm, by
    have := hbx.ow (hf.ext hm.ext) hlo
    rw [hl] at this; exact this⟩
  have hb : ¬ len * s > 2 ^ 24 := by
    have := Nat.le_of_ble_eq_true hbig
    have e : (2 : Nat) ^ 24 = 16777216 := by decide
    omega
  have key : (Instr.buildSlice T len ps.toArray).run P σ.w = .ok (.slice (some ⟨σ.size, 0, none⟩) len len) (σ.new (.cells cs.toArray E (0, 0)) 0).w := by
    by_cases h0 : len * s = 0
    · simp only [h0, if_true] at hfill
      have hb0 : ¬ (0 > 2 ^ 24) := by omega
      simp only [Instr.buildSlice, underlying, hT, Sem.run_bind, run_program, Result.andThen_ok, Sem.run_pure, run_typeInfo hi, hb0, if_false, h0, if_true, hfill, newRow, newObj, Sem.run]
      rfl
    · simp only [h0, if_false] at hfill
      simp only [Instr.buildSlice, underlying, hT, Sem.run_bind, run_program, Result.andThen_ok, Sem.run_pure, run_typeInfo hi, hb, if_false, h0, run_zero hi, hfill, newRow, newObj, Sem.run]
      rfl
  have hpp : (parts.map fun (i, x) => (i, ev n ρ x)) = ps.toArray := by rw [← hp, ← Array.toList_map]
  simp only [RunW, execOp, hpp, Sem.run_bind, key, Result.andThen_ok, Sem.run_pure, Sl, hl]
def gmake {α : Type} (k : Int) (z0 : α) : Option (List α) := if 0 ≤ k ∧ k ≤ 2147483648 then some (List.replicate k.toNat z0) else none

theorem zeros_get {zc : Array Value} {m i j : Nat} (hi : i < m) (hj : j < zc.size) :
    ((Array.range (m * zc.size)).map (fun k => zc[k % zc.size]!))[i * zc.size + j]? = zc[j]? := by
  have h : (i + 1) * zc.size ≤ m * zc.size := Nat.mul_le_mul_right _ hi
  rw [Nat.add_mul] at h
  rw [Array.getElem?_map, Array.getElem?_range, if_pos (by omega)]
  simp only [Option.map_some]
  have : (i * zc.size + j) % zc.size = j := by rw [Nat.mul_comm, Nat.mul_add_mod, Nat.mod_eq_of_lt hj]
  rw [this, getElem!_pos zc j hj, Array.getElem?_eq_getElem hj]

theorem run_make {el : Nat} {z0 : α} {zs : List Value} (hT : P.underlying T = some (.slice E)) (hi : TI P E z s bt) (hs : s = Rp.sz α) (hzc : z.cells = zs.toArray) (hz : Rp.rp el σ zs z0) (hbt : bt ≤ 1024)
    (hr : gmake a z0 = some xs) (hx : ev n ρ x = I a) (hy : ev n ρ y = I a) (hlo : lo ≤ σ.size)
    : ∃ (b : Nat) (σ' : St) (c' : Nat), c' = a.toNat ∧ RunW P σ.w n ρ ⟨dst, .makeSlice T x y, ty, pos, af, gd⟩ (Sl (some ⟨b, 0, none⟩) xs c') σ'.w ∧ Mod none σ σ' ∧ Ow σ' lo el (Sl (some ⟨b, 0, none⟩) xs c') xs := by
  unfold gmake at hr
  split at hr
  case isFalse => cases hr
  rename_i h01
  obtain ⟨h0, h1⟩ := h01
  cases hr
  obtain ⟨i0, hi1, hi2, hi3, hbytes⟩ := hi.it
  have hti : ∀ w, (typeInfo E).run P w = .ok i0 w := by
    intro w; simp only [typeInfo, Sem.run_bind, run_program, Result.andThen_ok, hi1]; rfl
  have hsz : zs.length = Rp.sz α := Rp.len hz
  have hpos : 0 < Rp.sz α := Rp.pos
  let C : Array Value := (Array.range (a.toNat * s)).map (fun k => (if a.toNat * s = 0 then #[] else z.cells)[k % (if a.toNat * s = 0 then #[] else z.cells).size]!)
  have hroom : (askRoom (a.toNat * bt)).run P σ.w = .ok () σ.w := by unfold askRoom; split <;> rfl
  have hwr : IntKind.i64.wrap a = a := w64_id (by omega) (by omega)
  have htl : decide ((bt : Int) * a > 2 ^ 48) = false := by
    have h2 : (2 : Int) ^ 48 = 281474976710656 := by decide
    have : (bt : Int) * a ≤ 1024 * 2147483648 := Int.mul_le_mul (by omega) h1 h0 (by omega)
    simp only [decide_eq_false_iff_not]
    omega
  have hrun : (Instr.makeSlice T (I a) (I a)).run P σ.w = .ok (.slice (some ⟨σ.size, 0, none⟩) a.toNat a.toNat) (σ.new (.cells C E (0, 0)) 0).w := by
    have hlt : (decide (a < 0)) = false := by simp; omega
    have hgt : (decide (a > a)) = false := by simp
    by_cases h00 : a.toNat * s = 0
    · simp only [Instr.makeSlice, underlying, hT, Sem.run_bind, run_program, Result.andThen_ok, Sem.run_pure, asInt, asIntOf, hti, hbytes, hwr, htl, hlt, hgt, Bool.or_self, Bool.false_eq_true, if_false, hroom, run_typeInfo hi, h00, if_true, newRow, newObj, Sem.run, C]
      rfl
    · simp only [Instr.makeSlice, underlying, hT, Sem.run_bind, run_program, Result.andThen_ok, Sem.run_pure, asInt, asIntOf, hti, hbytes, hwr, htl, hlt, hgt, Bool.or_self, Bool.false_eq_true, if_false, hroom, run_typeInfo hi, h00, run_zero hi, newRow, newObj, Sem.run, C]
      rfl
  have hnew := σ.new_new (.cells C E (0, 0)) 0
  have hm := σ.new_mod (.cells C E (0, 0)) 0
  have hlen : (List.replicate a.toNat z0).length = a.toNat := List.length_replicate
  refine ⟨σ.size, σ.new (.cells C E (0, 0)) 0, a.toNat, rfl, ?_, hm, .inr ⟨σ.size, 0, a.toNat, C, E, rfl, hlo, hnew, by rw [hlen]; exact Nat.le_refl _, ?_, St.new_vis _ _ _, fun i hi' => ?_⟩⟩
  · simp only [RunW, execOp, hx, hy, Sem.run_bind, hrun, Result.andThen_ok, Sem.run_pure, Sl, hlen]
  · simp [C, hs]
  · rw [hlen] at hi'
    rw [List.getElem_replicate]
    refine At.ofCells hnew (Rp.ext hm.ext hz) (fun j hj => ?_)
    have hne : ¬ a.toNat * s = 0 := by
      have : 0 < a.toNat * s := Nat.mul_pos (by omega) (by omega)
      omega
    have hzsz : z.cells.size = s := by rw [hzc, hs]; simpa using hsz
    have hg := zeros_get (zc := z.cells) (m := a.toNat) (i := i) (j := j) hi' (by rw [hzsz, hs, ← hsz]; exact hj)
    simp only [C, hne, if_false, Nat.zero_add]
    rw [hzsz] at hg
    rw [hs] at hg ⊢
    simp only [hzsz, hs] at hg ⊢
    rw [hg, hzc]
    simp [hj]
end
end Go.Vs

namespace Go.Vs
open Go

def gslice {α : Type} (xs : List α) (l h : Int) : Option (List α) := if 0 ≤ l ∧ l ≤ h ∧ h ≤ (xs.length : Int) then some ((xs.take h.toNat).drop l.toNat) else none

structure Slc (a : Option Addr) (m c s : Nat) (l h : Int) (a' : Option Addr) (m' c' : Nat) : Prop where
  h0 : 0 ≤ l
  h1 : l ≤ h
  h2 : h ≤ (m : Int)
  h3 : m ≤ c
  ea : a' = if c = l.toNat then a else a.map (·.add (l.toNat * s))
  em : m' = h.toNat - l.toNat
  ec : c' = c - l.toNat

section
variable {P : Program} {ops : Array Oper} {Q : Exit → Act → World → Prop} {n d : Nat} {ρ : Nat → Value} {σ : St} {u v : Value} {rest : List Oper}
variable {ty T T' E E' : TypeId} {pos : String} {af : Array Edge} {x y p q : Operand} {a b l h : Int} {α : Type} [Rp α] {xs ys r : List α} {z : Value} {s bt lo : Nat} {gd : Option (Nat × Bool)} {H : Array Obj} {dst : Option Nat} {ad ad' : Option Addr} {m c m' c' : Nat}

omit [Rp α] in
theorem gslice_some (hg : gslice xs l h = some r) : 0 ≤ l ∧ l ≤ h ∧ h ≤ (xs.length : Int) ∧ r = (xs.take h.toNat).drop l.toNat ∧ r.length = h.toNat - l.toNat := by
  unfold gslice at hg
  split at hg
  · rename_i hc
    cases hg
    refine ⟨hc.1, hc.2.1, hc.2.2, rfl, ?_⟩
    rw [List.length_drop, List.length_take]; omega
  · cases hg

omit [Rp α] in
theorem part_get (hg : gslice xs l h = some r) (i : Nat) (hi : i < r.length) : ∃ hj : l.toNat + i < xs.length, r[i] = xs[l.toNat + i] := by
  obtain ⟨h0, h1, h2, rfl, h4⟩ := gslice_some hg
  refine ⟨by omega, ?_⟩
  rw [List.getElem_drop, List.getElem_take]

theorem Rd.slice' {el : Nat} (hR : Rd el σ (Sl ad xs c) xs) (hcap : xs.length ≤ c) (hg : gslice xs l h = some r) :
    ∃ ad' c', Slc ad xs.length c (Rp.sz α) l h ad' r.length c' ∧ ((ad' = ad ∧ c' = c ∧ xs = [] ∧ r = []) ∨ ∃ bl o cp o', ad = some ⟨bl, o, none⟩ ∧ Sl ad' r c' = .slice (some ⟨bl, o', none⟩) r.length cp ∧ cp = c - l.toNat ∧
      (o' = o + l.toNat * Rp.sz α ∨ (o' = o ∧ r = [] ∧ cp = 0)) ∧ ∀ i, (hi : i < r.length) → At el σ bl (o' + i * Rp.sz α) r[i]) := by
  obtain ⟨h0, h1, h2, h3, h4⟩ := gslice_some hg
  refine ⟨if c = l.toNat then ad else ad.map (·.add (l.toNat * Rp.sz α)), c - l.toNat, ⟨h0, h1, h2, hcap, rfl, h4, rfl⟩, ?_⟩
  rcases hR with ⟨hv, rfl⟩ | ⟨bl, o, cp, hv, hA⟩
  · simp only [List.length_nil] at h2
    have : l = 0 := by omega
    subst this
    have hr : r = [] := List.eq_nil_of_length_eq_zero (by omega)
    subst hr
    refine .inl ⟨?_, by simp, rfl, rfl⟩
    split
    · rfl
    · cases ad with
      | none => rfl
      | some a => simp [Addr.add]
  · cases hv
    right
    by_cases hc : c = l.toNat
    · have hr : r = [] := List.eq_nil_of_length_eq_zero (by omega)
      subst hr
      exact ⟨bl, o, c - l.toNat, o, rfl, by simp [hc], rfl, .inr ⟨rfl, rfl, by omega⟩, fun i hi => by simp at hi⟩
    · refine ⟨bl, o, c - l.toNat, o + l.toNat * Rp.sz α, rfl, by simp [hc, add_plain], rfl, .inl rfl, fun i hi => ?_⟩
      obtain ⟨hj, e⟩ := part_get hg i hi
      rw [e, Nat.add_assoc, ← Nat.add_mul]
      exact hA _ hj

theorem RS.cap {el : Nat} (hR : RS el σ (Sl ad xs c) xs) : xs.length ≤ c := by
  rcases hR with ⟨hv, rfl⟩ | ⟨b2, o2, c2, hv, _, h4, _⟩
  · simp
  · cases hv; exact h4
theorem RS.slice {el : Nat} (hR : RS el σ (Sl ad xs c) xs) (hg : gslice xs l h = some r) : ∃ ad' c', Slc ad xs.length c (Rp.sz α) l h ad' r.length c' ∧ RS el σ (Sl ad' r c') r := by
  obtain ⟨h0, h1, h2, h3, h4⟩ := gslice_some hg
  have hcap := hR.cap
  obtain ⟨ad', c', hs, hx⟩ := hR.rd.slice' hcap hg
  refine ⟨ad', c', hs, ?_⟩
  by_cases hr : r = []
  · subst hr; exact .inl ⟨⟨_, _, rfl⟩, rfl⟩
  rcases hx with ⟨_, _, _, hx⟩ | ⟨bl, o, cp, o', rfl, e1, e2, e3, e4⟩
  · exact absurd hx hr
  · rcases hR with ⟨_, rfl⟩ | ⟨b2, o2, c2, hv, hel, _, hvis, _⟩
    · exact absurd (List.eq_nil_of_length_eq_zero (by simp at h2; omega)) hr
    · cases hv
      refine .inr ⟨bl, o', cp, e1, hel, by omega, ?_, e4⟩
      rcases e3 with rfl | ⟨rfl, rfl, _⟩
      · have : (l.toNat + r.length) * Rp.sz α ≤ xs.length * Rp.sz α := Nat.mul_le_mul_right _ (by omega)
        rw [Nat.add_mul] at this; omega
      · exact absurd rfl hr
theorem Ow.cap {el : Nat} (hO : Ow σ lo el (Sl ad xs c) xs) : xs.length ≤ c := by
  rcases hO with ⟨hv, rfl⟩ | ⟨b2, o2, c2, C, T, hv, _, _, h4, _⟩
  · simp
  · cases hv; exact h4
theorem Ow.slice {el : Nat} (hO : Ow σ lo el (Sl ad xs c) xs) (hg : gslice xs l h = some r) : ∃ ad' c', Slc ad xs.length c (Rp.sz α) l h ad' r.length c' ∧ Ow σ lo el (Sl ad' r c') r ∧ (∀ b, blk (Sl ad' r c') = some b → blk (Sl ad xs c) = some b) := by
  obtain ⟨h0, h1, h2, h3, h4⟩ := gslice_some hg
  have hcap := hO.cap
  obtain ⟨ad', c', hs, hx⟩ := hO.rd.slice' hcap hg
  refine ⟨ad', c', hs, ?_, ?_⟩
  · rcases hx with ⟨rfl, rfl, rfl, rfl⟩ | ⟨bl, o, cp, o', rfl, e1, e2, e3, e4⟩
    · exact hO
    · rcases hO with ⟨hv, _⟩ | ⟨b2, o2, c2, C, T0, hv, g2, g3, g4, g5, g6, _⟩
      · cases hv
      · cases hv
        refine .inr ⟨bl, o', cp, C, T0, e1, g2, g3, by omega, ?_, g6, e4⟩
        rcases e3 with rfl | ⟨rfl, rfl, h9⟩
        · have : (l.toNat + cp) * Rp.sz α ≤ c * Rp.sz α := Nat.mul_le_mul_right _ (by omega)
          rw [Nat.add_mul] at this; omega
        · subst h9; simp only [Nat.zero_mul]; omega
  · intro b hb
    rcases hx with ⟨rfl, rfl, rfl, rfl⟩ | ⟨bl, o, cp, o', rfl, e1, e2, e3, e4⟩
    · exact hb
    · rw [e1] at hb; cases hb; rfl

theorem run_slice {lo' hi' : Option Value} (hT : P.underlying T = some (.slice E)) (hi : TI P E z s bt) (hs : Slc ad m c s l h ad' m' c')
    (hl : lo' = some (I l) ∨ (lo' = none ∧ l = 0)) (hh : hi' = some (I h) ∨ (hi' = none ∧ h = m)) (w : World) :
    (Instr.sliceAt T (.slice ad m c) lo' hi' none).run P w = .ok (.slice ad' m' c') w := by
  obtain ⟨h0, h1, h2, h3, rfl, rfl, rfl⟩ := hs
  have hh' : h ≤ (c : Int) := by omega
  have h0' : 0 ≤ h := by omega
  have e1 : (h.toNat : Int) = h := Int.toNat_of_nonneg h0'
  rcases hl with rfl | ⟨rfl, rfl⟩ <;> rcases hh with rfl | ⟨rfl, rfl⟩ <;>
    simp [Instr.sliceAt, Instr.slice, underlying, hT, Instr.sliceBounds, Instr.sliceBound, asIntOf, h0, h0', hh', h1, e1, run_typeInfo hi]

theorem rv_slice_l (hT : P.underlying T = some (.slice E)) (hi : TI P E z s bt) (hs : Slc ad m c s l m ad' m' c') (hx : ev n ρ x = .slice ad m c) (hp : ev n ρ p = I l) :
    RunV P H n ρ ⟨dst, .slice T x (some p) none none, ty, pos, af, gd⟩ (.slice ad' m' c') := fun w _ => by
  simp [execOp, hx, hp, run_slice hT hi hs (.inl rfl) (.inr ⟨rfl, rfl⟩)]
theorem rv_slice_h (hT : P.underlying T = some (.slice E)) (hi : TI P E z s bt) (hs : Slc ad m c s 0 h ad' m' c') (hx : ev n ρ x = .slice ad m c) (hq : ev n ρ q = I h) :
    RunV P H n ρ ⟨dst, .slice T x none (some q) none, ty, pos, af, gd⟩ (.slice ad' m' c') := fun w _ => by
  simp [execOp, hx, hq, run_slice hT hi hs (.inr ⟨rfl, rfl⟩) (.inl rfl)]

theorem run_store_own {el : Nat} {e e' : α} {bl o o' k : Nat} {vs : List Value} (hi : TI P T z s bt) (hO : Ow σ lo el v xs) (hg : gidx xs a = some e) (hix : Ix v a (Rp.sz α) bl o) (hx : ev n ρ x = pt bl o') (ho : o' = o + k) (hy : ev n ρ y = u)
    (hu : u.cells = vs.toArray) (hs : vs.length = s) (hk : k + vs.length ≤ Rp.sz α) (hp : ∀ t ∈ vs, plain t = true) (hrp : ∀ cs, Rp.rp el σ cs e → Rp.rp el σ (wrL cs k vs) e')
    : ∃ σ' : St, RunS P σ.w n ρ ⟨dst, .store T x y, ty, pos, af, gd⟩ σ'.w ∧ Mod (blk v) σ σ' ∧ Ow σ' lo el v (xs.set a.toNat e') := by
  subst ho
  obtain ⟨ob, m, c, rfl, h0, h1, rfl⟩ := hix.it
  obtain ⟨_, hlt, he⟩ := gidx_some hg
  rcases hO with ⟨hv, _⟩ | ⟨b2, o2, c2, C, T0, hv, g2, g3, g4, g5, g6, g7⟩
  · cases hv
  cases hv
  have hb := lt_of_block g3
  have hrow : (a.toNat + 1) * Rp.sz α ≤ c * Rp.sz α := Nat.mul_le_mul_right _ (by omega)
  rw [Nat.add_mul] at hrow
  have hst := run_storeCells (P := P) bl (ob + a.toNat * Rp.sz α + k) T0 vs 0 σ.w C g3 (by omega) hp
  simp only [Nat.add_zero] at hst
  have hm := St.put_mod (σ := σ) (o := .cells (wr C (ob + a.toNat * Rp.sz α + k) vs) T0 (0, 0)) g6
  refine ⟨σ.put bl (.cells (wr C (ob + a.toNat * Rp.sz α + k) vs) T0 (0, 0)), ?_, hm, .inr ⟨bl, ob, c, _, T0, by rw [List.length_set], g2, World.put_at _ hb, by rw [List.length_set]; exact g4, by rw [wr_size]; exact g5, g6, fun i hi' => ?_⟩⟩
  · simp [RunS, execOp, hx, hy, Instr.storeAt, Instr.sureAddr, storeVar, run_typeInfo hi, hu, hs, hst, St.put]
  · rw [List.length_set] at hi'
    by_cases hia : i = a.toNat
    · subst hia
      simp only [List.getElem_set_self]
      obtain ⟨cs, h3, h4⟩ := he ▸ g7 _ hi'
      have hl := Rp.len h3
      have hl' := Rp.len (hrp cs h3)
      refine ⟨wrL cs k vs, Rp.ext hm.ext (hrp cs h3), fun j hj => ?_⟩
      have e0 : (σ.put bl (.cells (wr C (ob + a.toNat * Rp.sz α + k) vs) T0 (0, 0))).cell bl (ob + a.toNat * Rp.sz α + j) = (wr C (ob + a.toNat * Rp.sz α + k) vs)[ob + a.toNat * Rp.sz α + j]? := by
        show (World.put σ.w bl _).cell? _ = _
        simp only [World.cell?, World.put_at _ hb, Option.isSome_none, Bool.false_eq_true, if_false]
      have e1 : (wr cs.toArray k vs)[j]? = some (wrL cs k vs)[j] := by rw [wr_list]; simp
      rw [e0, ← e1]
      by_cases hj1 : j < k
      · rw [wr_lt _ _ _ _ (by omega), wr_lt _ _ _ _ hj1]
        have := h4 j (by omega)
        have e3 : σ.cell bl (ob + a.toNat * Rp.sz α + j) = C[ob + a.toNat * Rp.sz α + j]? := by
          show σ.w.cell? _ = _
          simp only [World.cell?, g3, Option.isSome_none, Bool.false_eq_true, if_false]
        rw [← e3, this]; simp
      · by_cases hj2 : j < k + vs.length
        · have e4 := wr_in vs C (ob + a.toNat * Rp.sz α + k) (j - k) (by omega) (by omega)
          have e5 := wr_in vs cs.toArray k (j - k) (by simp; omega) (by omega)
          rw [show ob + a.toNat * Rp.sz α + j = ob + a.toNat * Rp.sz α + k + (j - k) by omega, e4, ← e5]
          congr 1; omega
        · rw [wr_ge _ _ _ _ (by omega), wr_ge _ _ _ _ (by omega)]
          have := h4 j (by omega)
          have e3 : σ.cell bl (ob + a.toNat * Rp.sz α + j) = C[ob + a.toNat * Rp.sz α + j]? := by
            show σ.w.cell? _ = _
            simp only [World.cell?, g3, Option.isSome_none, Bool.false_eq_true, if_false]
          rw [← e3, this]; simp
    · rw [List.getElem_set_ne (by omega)]
      have hne : ∀ j, j < Rp.sz α → (wr C (ob + a.toNat * Rp.sz α + k) vs)[ob + i * Rp.sz α + j]? = C[ob + i * Rp.sz α + j]? := by
        intro j hj
        by_cases hlt' : i < a.toNat
        · have : (i + 1) * Rp.sz α ≤ a.toNat * Rp.sz α := Nat.mul_le_mul_right _ hlt'
          rw [Nat.add_mul] at this
          exact wr_lt _ _ _ _ (by omega)
        · have : (a.toNat + 1) * Rp.sz α ≤ i * Rp.sz α := Nat.mul_le_mul_right _ (by omega)
          rw [Nat.add_mul] at this
          exact wr_ge _ _ _ _ (by omega)
      exact (g7 i hi').put g3 g6 hne

theorem rv_arrPtr {k : Nat} {a0 : Addr} (hT : P.underlying T = some (.array k E)) (hx : ev n ρ x = .slice (some a0) m c) (hm : k ≤ m) :
    RunV P H n ρ ⟨dst, .sliceToArrayPointer T x, ty, pos, af, gd⟩ (.pointer (some a0)) := fun w _ => by
  have : ¬ m < k := by omega
  simp [execOp, hx, Instr.arrayAt, underlying, hT, this]
theorem RS.arr {el : Nat} {zs : List Int} (hR : RS el σ (Sl ad zs c) zs) (hp : 0 < zs.length) : ∃ bl o, ad = some ⟨bl, o, none⟩ ∧ ∀ j, (hj : j < zs.length) → HCell σ.w.heap bl (o + j) = some (I zs[j]) := by
  rcases hR with ⟨_, rfl⟩ | ⟨bl, o, c2, hv, _, _, _, hA⟩
  · simp at hp
  · cases hv
    refine ⟨bl, o, rfl, fun j hj => ?_⟩
    have := (hA j hj).int
    simpa [Rp.sz] using this
end
end Go.Vs

namespace Go.Vs
open Go

theorem bind_some {α β : Type} {o : Option α} {f : α → Option β} {r : β} (h : o.bind f = some r) : ∃ x, o = some x ∧ f x = some r := Option.bind_eq_some_iff.1 h
theorem bif_t {α : Type} {b : Bool} {x y z : α} (hb : b = true) (h : (bif b then x else y) = z) : x = z := by subst hb; exact h
theorem bif_f {α : Type} {b : Bool} {x y z : α} (hb : b = false) (h : (bif b then x else y) = z) : y = z := by subst hb; exact h
def selim {α β γ : Type} (f : α → γ) (g : β → γ) : α ⊕ β → γ
  | .inl a => f a
  | .inr b => g b
theorem selim_l {α β γ : Type} {f : α → γ} {g : β → γ} {a : α} {z : γ} (h : selim f g (.inl a) = z) : f a = z := h
theorem selim_r {α β γ : Type} {f : α → γ} {g : β → γ} {a : β} {z : γ} (h : selim f g (.inr a) = z) : g a = z := h

def gquo (a b : Int) : Option Int := if b = 0 then none else some (w64 (a.tdiv b))
def grem (a b : Int) : Option Int := if b = 0 then none else some (a.tmod b)
theorem gquo_some {a b r : Int} (h : gquo a b = some r) : b ≠ 0 ∧ r = w64 (a.tdiv b) := by
  unfold gquo at h; split at h
  · cases h
  · exact ⟨by assumption, (Option.some.inj h).symm⟩
theorem grem_some {a b r : Int} (h : grem a b = some r) : b ≠ 0 ∧ r = a.tmod b := by
  unfold grem at h; split at h
  · cases h
  · exact ⟨by assumption, (Option.some.inj h).symm⟩
section
variable {P : Program} {H : Array Obj} {n : Nat} {ρ : Nat → Value} {d : Option Nat} {ty T T' : TypeId} {pos : String} {af : Array Edge} {gd : Option (Nat × Bool)} {x y : Operand} {a b r : Int}
theorem rv_quoG (h : gquo a b = some r) (hx : ev n ρ x = I a) (hy : ev n ρ y = I b) : RunV P H n ρ ⟨d, .binOp .quo T x y T', ty, pos, af, gd⟩ (I r) := by
  obtain ⟨h0, rfl⟩ := gquo_some h
  exact rv_quo hx hy h0
theorem rv_remG (h : grem a b = some r) (hx : ev n ρ x = I a) (hy : ev n ρ y = I b) : RunV P H n ρ ⟨d, .binOp .rem T x y T', ty, pos, af, gd⟩ (I r) := by
  obtain ⟨h0, rfl⟩ := grem_some h
  exact rv_rem hx hy h0
end
def garr {α : Type} (k : Nat) (xs : List α) : Option (List α) := if k ≤ xs.length then some (xs.take k) else none
theorem garr_some {α : Type} {k : Nat} {xs r : List α} (h : garr k xs = some r) : k ≤ xs.length ∧ r = xs.take k := by
  unfold garr at h; split at h
  · exact ⟨by assumption, (Option.some.inj h).symm⟩
  · cases h
theorem arr_take {H : Array Obj} {b o : Nat} {xs : List Int} {k : Nat} (h : ∀ j, (hj : j < xs.length) → HCell H b (o + j) = some (I xs[j])) : ∀ j, (hj : j < (List.map I (xs.take k)).length) → HCell H b (o + j) = some (List.map I (xs.take k))[j] := by
  intro j hj
  rw [List.length_map, List.length_take] at hj
  rw [h j (by omega)]
  simp
theorem arr_fits {xs ys : List Int} {k : Nat} (h1 : xs.length = k) (h2 : ys.length = k) : 0 + (List.map I xs).length ≤ (List.map I ys).length := by simp; omega
def loopN {S R : Type} (f : S → Option (S ⊕ R)) : Nat → S → Option R
  | 0, _ => none
  | n + 1, s => (f s).bind (selim (fun s' => loopN f n s') (fun r => some r))
theorem loopN_mono {S R : Type} (f : S → Option (S ⊕ R)) : ∀ (n m : Nat) (s : S) (r : R), n ≤ m → loopN f n s = some r → loopN f m s = some r
  | 0, _, _, _, _, h => by cases h
  | n + 1, 0, _, _, hm, _ => by omega
  | n + 1, m + 1, s, r, hm, h => by
    obtain ⟨o, ho, h⟩ := bind_some h
    rw [loopN, ho]
    cases o with
    | inl s' => exact loopN_mono f n m s' r (by omega) h
    | inr t => exact h
open Classical in
noncomputable def loopM {S R : Type} (f : S → Option (S ⊕ R)) (s : S) : Option R := if h : ∃ r n, loopN f n s = some r then some h.choose else none
theorem loopM_of {S R : Type} {f : S → Option (S ⊕ R)} {n : Nat} {s : S} {r : R} (h : loopN f n s = some r) : loopM f s = some r := by
  have hx : ∃ r n, loopN f n s = some r := ⟨r, n, h⟩
  unfold loopM
  rw [dif_pos hx]
  obtain ⟨m, hm⟩ := hx.choose_spec
  have h1 := loopN_mono f n (max n m) s r (by omega) h
  have h2 := loopN_mono f m (max n m) s _ (by omega) hm
  rw [h1] at h2
  exact h2.symm
theorem loopM_some {S R : Type} {f : S → Option (S ⊕ R)} {s : S} {r : R} (h : loopM f s = some r) : ∃ n, loopN f n s = some r := by
  unfold loopM at h
  split at h
  · rename_i hx
    obtain ⟨n, hn⟩ := hx.choose_spec
    exact ⟨n, (Option.some.inj h) ▸ hn⟩
  · cases h
theorem loopM_eq {S R : Type} (f : S → Option (S ⊕ R)) (s : S) : loopM f s = (f s).bind (selim (fun s' => loopM f s') (fun r => some r)) := by
  cases hf : f s with
  | none =>
    cases h : loopM f s with
    | none => rfl
    | some r =>
      obtain ⟨n, hn⟩ := loopM_some h
      cases n with
      | zero => cases hn
      | succ n => rw [loopN, hf] at hn; cases hn
  | some o =>
    cases o with
    | inr r => exact loopM_of (n := 1) (by rw [loopN, hf]; rfl)
    | inl s' =>
      show _ = loopM f s'
      cases h : loopM f s' with
      | some r =>
        obtain ⟨n, hn⟩ := loopM_some h
        exact loopM_of (n := n + 1) (by rw [loopN, hf]; exact hn)
      | none =>
        cases h' : loopM f s with
        | none => rfl
        | some r =>
          obtain ⟨n, hn⟩ := loopM_some h'
          cases n with
          | zero => cases hn
          | succ n =>
            rw [loopN, hf] at hn
            have := loopM_of (f := f) (n := n) (s := s') (r := r) hn
            rw [h] at this; cases this
theorem loopM_ind {S R : Type} {f : S → Option (S ⊕ R)} (J : S → Prop) (μ : S → Nat) (Z : R → Prop) (step : ∀ s, J s → (∃ s', f s = some (.inl s') ∧ J s' ∧ μ s' < μ s) ∨ ∃ r, f s = some (.inr r) ∧ Z r) :
    ∀ (s : S), J s → ∃ r, loopM f s = some r ∧ Z r := by
  have key : ∀ k s, μ s = k → J s → ∃ r, loopM f s = some r ∧ Z r := by
    intro k
    induction k using Nat.strongRecOn with
    | _ k ih =>
      intro s hk hJ
      rcases step s hJ with ⟨s', h1, h2, h3⟩ | ⟨r, h1, h2⟩
      · obtain ⟨r, h4, h5⟩ := ih _ (hk ▸ h3) s' rfl h2
        exact ⟨r, by rw [loopM_eq, h1]; exact h4, h5⟩
      · exact ⟨r, by rw [loopM_eq, h1]; rfl, h2⟩
  exact fun s hJ => key _ s rfl hJ

section
variable {P : Program} {Q : Exit → Act → World → Prop} {a : Act} {w : World}
theorem wp_loopM {S R : Type} {c : Code} (f : S → Option (S ⊕ R)) {s0 : S} {r : R} (hr : loopM f s0 = some r) (J : S → Act → World → Prop) (h0 : J s0 a w)
    (round : ∀ s a w o, J s a w → f s = some o → (∀ t, o = .inr t → t = r) → c.wp P (Exit.then (fun a' w' => ∃ s', o = .inl s' ∧ J s' a' w') Q) a w) : (Code.loop c).wp P Q a w := by
  obtain ⟨n, hn⟩ := loopM_some hr
  refine wp_loop_ghost (fun k a w => ∃ s, loopN f k s = some r ∧ J s a w) n ⟨s0, hn, h0⟩ ?_
  rintro k a w ⟨s, hk, hJ⟩
  cases k with
  | zero => cases hk
  | succ k =>
    obtain ⟨o, ho, hk⟩ := bind_some hk
    refine wp_mono (round s a w o hJ ho (by rintro t rfl; exact Option.some.inj hk)) ?_
    intro e a' w' hq
    cases e with
    | normal =>
      obtain ⟨s', rfl, hJ'⟩ := hq
      exact ⟨k, Nat.lt_succ_self k, s', hk, hJ'⟩
    | exit id => exact hq
    | goto l => exact hq
    | ret => exact hq
    | panic ch => exact hq
    | outgrown => exact hq

theorem q_then {K : Act → World → Prop} (h : K a w) : Exit.then K Q .normal a w := h
theorem q_then_x {K : Act → World → Prop} {i : Nat} (h : Q (.exit i) a w) : Exit.then K Q (.exit i) a w := h
theorem q_then_r {K : Act → World → Prop} (h : Q .ret a w) : Exit.then K Q .ret a w := h
theorem q_blk {id : Nat} (h : Q .normal a w) : Exit.inBlock id Q .normal a w := h
theorem q_blk_hit {id : Nat} (h : Q .normal a w) : Exit.inBlock id Q (.exit id) a w := by simp only [Exit.inBlock, if_true]; exact h
theorem q_blk_x {id i : Nat} (hi : i ≠ id) (h : Q (.exit i) a w) : Exit.inBlock id Q (.exit i) a w := by simp only [Exit.inBlock, hi, if_false]; exact h
theorem q_blk_r {id : Nat} (h : Q .ret a w) : Exit.inBlock id Q .ret a w := h
theorem c_blk {id : Nat} {c : Code} (h : c.wp P (Exit.inBlock id Q) a w) : (Code.block id c).wp P Q a w := wp_block h
theorem c_seq {x y : Code} (h : x.wp P (Exit.then (y.wp P Q) Q) a w) : (Code.seq x y).wp P Q a w := wp_seq h
theorem c_skip (h : Q .normal a w) : Code.skip.wp P Q a w := wp_skip h
theorem c_ret (h : Q .ret a w) : Code.ret.wp P Q a w := wp_ret h
theorem c_exit {i : Nat} (h : Q (.exit i) a w) : (Code.exit i).wp P Q a w := wp_exit h
theorem c_cut {c : Code} (J : Exit → Act → World → Prop) (h : c.wp P J a w) (k : ∀ e a w, J e a w → Q e a w) : c.wp P Q a w := wp_mono h k
theorem w_end {ops : Array Oper} (h : Q .normal a w) : wpList P ops Q [] a w := h
end
end Go.Vs
namespace Go.Vs
open Go
/-! ## Frames at joins -/
def updL (ρ : Nat → Value) : List (Nat × Value) → Nat → Value
  | [], t => ρ t
  | (d, v) :: r, t => bif Nat.beq t d then v else updL ρ r t
def agree (ρ : Nat → Value) : List (Nat × Value) → Prop
  | [] => True
  | (d, v) :: r => ρ d = v ∧ agree ρ r
theorem updL_self {ρ : Nat → Value} : ∀ {l : List (Nat × Value)}, agree ρ l → updL ρ l = ρ
  | [], _ => rfl
  | (d, v) :: r, ⟨h1, h2⟩ => by
    funext t
    rw [updL, updL_self h2]
    by_cases h : t = d
    · subst h; rw [beq_t]; exact h1.symm
    · rw [beq_f h]; rfl
theorem fr_join {n : Nat} {ρ : Nat → Value} {l : List (Nat × Value)} (h : agree ρ l) : fr n ρ = fr n (updL ρ l) := by rw [updL_self h]

/-! ## Blocks apart -/
def Df (x y : Option Nat) : Prop := ∀ b, x = some b → y ≠ some b
theorem Df.symm {x y : Option Nat} (h : Df x y) : Df y x := fun b hy hx => h b hx hy
theorem Ow.df {el : Nat} {α : Type} [Rp α] {σ : St} {lo : Nat} {v : Value} {xs : List α} (h : Ow σ lo el v xs) : Df (blk v) (some σ.size) := fun b hb e => by
  cases e; exact absurd (h.lt _ hb) (Nat.lt_irrefl _)
theorem Bx.df {σ : St} {b : Nat} {cs : List Value} (h : Bx σ b cs) : Df (some b) (some σ.size) := fun i hb e => by
  cases e; cases hb; exact absurd h.lt (Nat.lt_irrefl _)
theorem Df.ge {x : Option Nat} {lo : Nat} (h : ∀ b, x = some b → b < lo) {y : Option Nat} (hy : ∀ b, y = some b → lo ≤ b) : Df x y := fun b hb e => by
  have := h b hb; have := hy b e; omega
theorem Ow.pub' {el : Nat} {α : Type} [Rp α] {σ : St} {lo : Nat} {v : Value} {xs : List α} (h : Ow σ lo el v xs) (hel : el ≤ lo) : ∃ σ' : St, σ'.w = σ.w ∧ Mod (blk v) σ σ' ∧ RS el σ' v xs := by
  have hl := h.lt
  rcases h with ⟨rfl, rfl⟩ | ⟨b, o, c, C, T, rfl, h2, h3, h4, h5, h6, h7⟩
  · exact ⟨σ, rfl, Mod.refl _ _, RS.nil⟩
  · have hb := hl b rfl
    refine ⟨σ.pub b (o + xs.length * Rp.sz α) hb, rfl, ⟨rfl, rfl, rfl, Nat.le_refl _, rfl, St.pub_ext hb, ⟨fun _ _ _ => rfl, fun i _ hne => ?_⟩⟩, .inr ⟨b, o, c, rfl, Nat.le_trans hel h2, h4, ?_, fun i hi => (h7 i hi).same (St.pub_ext hb) rfl⟩⟩
    · show (if i = b then _ else _) = _
      rw [if_neg (by intro e; subst e; exact hne rfl)]
    · show _ ≤ (if b = b then _ else _)
      rw [if_pos rfl]; omega
theorem Ow.low' {el el' : Nat} {α : Type} [Rp α] {σ : St} {lo : Nat} {v : Value} {xs : List α} (h : Ow σ lo el v xs) (hl : el' ≤ el) : Ow σ lo el' v xs := by
  rcases h with h | ⟨b, o, c, C, T, h1, h2, h3, h4, h5, h6, h7⟩
  · exact .inl h
  · exact .inr ⟨b, o, c, C, T, h1, h2, h3, h4, h5, h6, fun i hi => (h7 i hi).low hl⟩
theorem Rd.low {el el' : Nat} {α : Type} [Rp α] {σ : St} {v : Value} {xs : List α} (h : Rd el σ v xs) (hl : el' ≤ el) : Rd el' σ v xs := by
  rcases h with h | ⟨b, o, c, h1, h7⟩
  · exact .inl h
  · exact .inr ⟨b, o, c, h1, fun i hi => (h7 i hi).low hl⟩
class Sc (α : Type) [Rp α] : Prop where
  sc : ∀ {lo lo' : Nat} {σ : St} {cs : List Value} {x : α}, Rp.rp lo σ cs x → Rp.rp lo' σ cs x
instance : Sc Int := ⟨fun h => h⟩
instance : Sc Bool := ⟨fun h => h⟩
instance : Sc UInt8 := ⟨fun h => h⟩
instance : Sc ByteArray := ⟨fun h => h⟩
instance {α β : Type} [Rp α] [Rp β] [Sc α] [Sc β] : Sc (α × β) := ⟨by rintro _ _ _ _ _ ⟨c1, c2, rfl, h1, h2⟩; exact ⟨c1, c2, rfl, Sc.sc h1, Sc.sc h2⟩⟩
theorem At.sc {α : Type} [Rp α] [Sc α] {lo lo' : Nat} {σ : St} {b o : Nat} {x : α} (h : At lo σ b o x) : At lo' σ b o x := by
  obtain ⟨cs, h1, h2⟩ := h
  exact ⟨cs, Sc.sc h1, h2⟩
theorem Ow.sc {α : Type} [Rp α] [Sc α] {el el' : Nat} {σ : St} {lo : Nat} {v : Value} {xs : List α} (h : Ow σ lo el v xs) : Ow σ lo el' v xs := by
  rcases h with h | ⟨b, o, c, C, T, h1, h2, h3, h4, h5, h6, h7⟩
  · exact .inl h
  · exact .inr ⟨b, o, c, C, T, h1, h2, h3, h4, h5, h6, fun i hi => (h7 i hi).sc⟩
theorem Rd.sc {α : Type} [Rp α] [Sc α] {el el' : Nat} {σ : St} {v : Value} {xs : List α} (h : Rd el σ v xs) : Rd el' σ v xs := by
  rcases h with h | ⟨b, o, c, h1, h7⟩
  · exact .inl h
  · exact .inr ⟨b, o, c, h1, fun i hi => (h7 i hi).sc⟩
theorem Mod.own {S : Option Nat} {a b c : St} {v : Value} (h : Mod S a b) (k : Mod (blk v) b c) (hg : ∀ i, blk v = .some i → a.size ≤ i) : Mod S a c := h.step k (.inr (.inr hg))
theorem Rd.at {el : Nat} {α : Type} [Rp α] {σ : St} {v : Value} {xs : List α} {a : Int} {e : α} {b o : Nat} (h : Rd el σ v xs) (hg : gidx xs a = some e) (hi : Ix v a (Rp.sz α) b o) : At el σ b o e := by
  obtain ⟨h0, h1, h2⟩ := gidx_some hg
  obtain ⟨ob, m, c, rfl, g0, g1, rfl⟩ := hi.it
  rcases h with ⟨_, rfl⟩ | ⟨b, o, c, hv, hc⟩
  · simp at h1
  · cases hv; exact h2 ▸ hc _ h1
theorem RS.at {el : Nat} {α : Type} [Rp α] {σ : St} {v : Value} {xs : List α} {a : Int} {e : α} {b o : Nat} (h : RS el σ v xs) (hg : gidx xs a = some e) (hi : Ix v a (Rp.sz α) b o) : At el σ b o e := h.rd.at hg hi
theorem Ow.at {el : Nat} {α : Type} [Rp α] {σ : St} {lo : Nat} {v : Value} {xs : List α} {a : Int} {e : α} {b o : Nat} (h : Ow σ lo el v xs) (hg : gidx xs a = some e) (hi : Ix v a (Rp.sz α) b o) : At el σ b o e := h.rd.at hg hi
theorem gidx_lt {α : Type} {xs : List α} {a : Int} {e : α} {m : Nat} (h : gidx xs a = some e) (hm : xs.length = m) : 0 ≤ a ∧ a.toNat < m := by
  obtain ⟨h0, h1, _⟩ := gidx_some h
  exact ⟨h0, hm ▸ h1⟩
theorem Bx.arr {σ : St} {b : Nat} {xs : List Int} {a x : Int} (h : Bx σ b (xs.map I)) (hx : gidx xs a = some x) : HCell σ.w.heap b (0 + a.toNat * 1) = some (I x) := by
  obtain ⟨h0, h1, h2⟩ := gidx_some hx
  rw [Nat.mul_one]
  exact h.cell _ (by simp [h1, h2])
theorem arr_set (xs : List Int) (k : Nat) (v : Int) : wrL (xs.map I) (0 + k * 1) [I v] = (xs.set k v).map I := by
  simp [wrL, List.map_set]
theorem wrL_all (vs : List Value) : ∀ (cs pre : List Value), cs.length = vs.length → wrL (pre ++ cs) pre.length vs = pre ++ vs := by
  induction vs with
  | nil => intro cs pre h; have : cs = [] := List.eq_nil_of_length_eq_zero h; subst this; rfl
  | cons v r ih =>
    intro cs pre h
    cases cs with
    | nil => simp at h
    | cons c cs =>
      rw [wrL]
      have e : (pre ++ c :: cs).set pre.length v = (pre ++ [v]) ++ cs := by simp
      have := ih cs (pre ++ [v]) (by simpa using h)
      rw [e, show pre.length + 1 = (pre ++ [v]).length by simp, this]
      simp
theorem arr_all {xs ys : List Int} {k : Nat} (h1 : xs.length = k) (h2 : ys.length = k) : wrL (List.map I ys) 0 (List.map I xs) = List.map I xs := by
  have := wrL_all (List.map I xs) (List.map I ys) [] (by simp; omega)
  simpa using this
theorem set_len {xs : List Int} {k m : Nat} {v : Int} (h : xs.length = m) : (xs.set k v).length = m := by rw [List.length_set]; exact h
end Go.Vs

namespace Go.Vs
open Go

abbrev BS := Nat → Prop

structure Md (S : BS) (σ σ' : St) : Prop where
  os : σ'.w.os = σ.w.os
  tape : σ'.w.tape = σ.w.tape
  output : σ'.w.output = σ.w.output
  dr : σ.loud ∨ σ.w.drawn ≤ σ'.w.drawn
  loud : σ'.loud = σ.loud
  ext : Ext σ σ'
  block : ∀ b, b < σ.size → ¬ S b → σ'.w.heap[b]? = σ.w.heap[b]?
  vis : ∀ b, b < σ.size → ¬ S b → σ'.vis b = σ.vis b

theorem Mod.md {S : Option Nat} {σ σ' : St} (m : Mod S σ σ') : Md (fun b => S = Option.some b) σ σ' :=
  ⟨m.os, m.tape, m.output, .inr m.dr, m.loud, m.ext, fun b h hn => m.oth.block b h hn, fun b h hn => m.oth.vis b h hn⟩
theorem Md.refl (S : BS) (σ : St) : Md S σ σ := ⟨rfl, rfl, rfl, .inr (Nat.le_refl _), rfl, Ext.refl _, fun _ _ _ => rfl, fun _ _ _ => rfl⟩
theorem Md.size {S : BS} {σ σ' : St} (h : Md S σ σ') : σ.size ≤ σ'.size := h.ext.size
theorem Md.step {S S' : BS} {a b c : St} (h : Md S a b) (k : Md S' b c) (hs : ∀ i, i < a.size → S' i → S i) : Md S a c :=
  ⟨k.os.trans h.os, k.tape.trans h.tape, k.output.trans h.output, (h.dr.elim .inl fun h1 => k.dr.elim (fun h2 => .inl (h.loud ▸ h2)) fun h2 => .inr (Nat.le_trans h1 h2)), k.loud.trans h.loud, h.ext.trans k.ext,
    fun i hi hn => (k.block i (Nat.lt_of_lt_of_le hi h.size) (fun e => hn (hs i hi e))).trans (h.block i hi hn),
    fun i hi hn => (k.vis i (Nat.lt_of_lt_of_le hi h.size) (fun e => hn (hs i hi e))).trans (h.vis i hi hn)⟩
theorem Md.mono {S S' : BS} {a b : St} (h : Md S a b) (hs : ∀ i, S i → S' i) : Md S' a b :=
  ⟨h.os, h.tape, h.output, h.dr, h.loud, h.ext, fun i hi hn => h.block i hi (fun e => hn (hs i e)), fun i hi hn => h.vis i hi (fun e => hn (hs i e))⟩

structure Ch where
  dup : Bool
  fp : BS
  as : St → Prop
  hdup : dup = true → ∀ b, ¬ fp b
  hlt : ∀ {σ : St}, as σ → ∀ b, fp b → b < σ.size
  hst : ∀ {S : BS} {σ σ' : St}, Md S σ σ' → (∀ b, fp b → ¬ S b) → as σ → as σ'

section
variable {α : Type} [Rp α]

def Ch.ro (el : Nat) (v : Value) (xs : List α) : Ch where
  dup := true
  fp _ := False
  as σ := RS el σ v xs
  hdup _ _ := id
  hlt _ _ h := h.elim
  hst m _ h := h.ext m.ext

theorem Ow.md {el : Nat} {σ σ' : St} {lo : Nat} {v : Value} {xs : List α} {S : BS} (h : Ow σ lo el v xs) (m : Md S σ σ') (hd : ∀ b, blk v = some b → ¬ S b) : Ow σ' lo el v xs := by
  rcases h with h | ⟨b, o, c, C, T, rfl, h2, h3, h4, h5, h6, h7⟩
  · exact .inl h
  · have hb : b < σ.size := lt_of_block h3
    have hS := hd b rfl
    have e1 := m.block b hb hS
    exact .inr ⟨b, o, c, C, T, rfl, h2, e1.trans h3, h4, h5, (m.vis b hb hS).trans h6, fun i hi => (h7 i hi).same m.ext e1⟩

def Ch.own (lo el : Nat) (v : Value) (xs : List α) : Ch where
  dup := false
  fp b := blk v = some b
  as σ := Ow σ lo el v xs
  hdup h := by cases h
  hlt h b e := h.lt b e
  hst m hd h := h.md m hd
end

def Ch.bx (lo b o : Nat) (cs pre suf : List Value) : Ch where
  dup := false
  fp i := i = b
  as σ := Bx σ b (pre ++ (cs ++ suf)) ∧ pre.length = o ∧ lo ≤ b
  hdup h := by cases h
  hlt h i e := by subst e; exact h.1.lt
  hst m hd h := by
    obtain ⟨⟨T, h1, h2⟩, h3⟩ := h
    have hb := lt_of_block h1
    have hS := hd b rfl
    exact ⟨⟨T, (m.block b hb hS).trans h1, (m.vis b hb hS).trans h2⟩, h3⟩

def cov : List Ch → BS
  | [], _ => False
  | c :: l, b => c.fp b ∨ cov l b
def allAs (σ : St) : List Ch → Prop
  | [] => True
  | c :: l => c.as σ ∧ allAs σ l
def apart : List Ch → Prop
  | [] => True
  | c :: l => (∀ b, c.fp b → ¬ cov l b) ∧ apart l

theorem cov_append {A R : List Ch} {b : Nat} : cov (A ++ R) b ↔ cov A b ∨ cov R b := by
  induction A with
  | nil => simp [cov]
  | cons c l ih => simp only [List.cons_append, cov, ih, or_assoc]
theorem allAs_append {σ : St} {A R : List Ch} : allAs σ (A ++ R) ↔ allAs σ A ∧ allAs σ R := by
  induction A with
  | nil => simp [allAs]
  | cons c l ih => simp only [List.cons_append, allAs, ih, and_assoc]
theorem apart_append {A R : List Ch} : apart (A ++ R) ↔ apart A ∧ apart R ∧ ∀ b, cov A b → ¬ cov R b := by
  induction A with
  | nil => simp [apart, cov]
  | cons c l ih =>
    simp only [List.cons_append, apart, cov, ih, cov_append]
    constructor
    · rintro ⟨h1, h2, h3, h4⟩
      exact ⟨⟨fun b hb h => h1 b hb (.inl h), h2⟩, h3, fun b hb h => hb.elim (fun hb => h1 b hb (.inr h)) (fun hb => h4 b hb h)⟩
    · rintro ⟨⟨h1, h2⟩, h3, h4⟩
      exact ⟨fun b hb h => h.elim (h1 b hb) (h4 b (.inl hb)), h2, h3, fun b hb => h4 b (.inr hb)⟩
theorem allAs_lt {σ : St} {L : List Ch} (h : allAs σ L) : ∀ b, cov L b → b < σ.size := by
  induction L with
  | nil => intro b hb; exact hb.elim
  | cons c l ih => intro b hb; exact hb.elim (c.hlt h.1 b) (ih h.2 b)
theorem allAs_md {σ σ' : St} {S : BS} {L : List Ch} (h : allAs σ L) (m : Md S σ σ') (hd : ∀ b, cov L b → ¬ S b) : allAs σ' L := by
  induction L with
  | nil => trivial
  | cons c l ih => exact ⟨c.hst m (fun b hb => hd b (.inl hb)) h.1, ih h.2 (fun b hb => hd b (.inr hb))⟩

structure Hp (S0 : BS) (σ0 σ : St) (L : List Ch) : Prop where
  md : Md S0 σ0 σ
  all : allAs σ L
  ap : apart L
  org : ∀ b, cov L b → b < σ0.size → S0 b

section
variable {S0 : BS} {σ0 σ σ' : St} {L A A' R : List Ch} {c d : Ch}

theorem Hp.size (H : Hp S0 σ0 σ L) : σ0.size ≤ σ.size := H.md.size

theorem Hp.frame (H : Hp S0 σ0 σ (A ++ R)) (H' : Hp (cov A) σ σ' A') : Hp S0 σ0 σ' (A' ++ R) := by
  obtain ⟨ha, hr⟩ := allAs_append.1 H.all
  obtain ⟨h1, h2, h3⟩ := apart_append.1 H.ap
  refine ⟨H.md.step H'.md (fun i hi h => H.org i (cov_append.2 (.inl h)) hi), allAs_append.2 ⟨H'.all, allAs_md hr H'.md (fun b hb h => h3 b h hb)⟩, apart_append.2 ⟨H'.ap, h2, fun b hb hb' => ?_⟩, fun b hb hlt => ?_⟩
  · have hlt := allAs_lt hr b hb'
    exact h3 b (H'.org b hb hlt) hb'
  · rcases cov_append.1 hb with hb | hb
    · have hs : b < σ.size := Nat.lt_of_lt_of_le hlt H.md.size
      exact H.org b (cov_append.2 (.inl (H'.org b hb hs))) hlt
    · exact H.org b (cov_append.2 (.inr hb)) hlt
theorem Hp.frame1 (H : Hp S0 σ0 σ (c :: R)) (H' : Hp (cov [c]) σ σ' A') : Hp S0 σ0 σ' (A' ++ R) := Hp.frame (A := [c]) H H'
theorem Hp.frame0 (H : Hp S0 σ0 σ R) (H' : Hp (cov []) σ σ' A') : Hp S0 σ0 σ' (A' ++ R) := Hp.frame (A := []) H H'
theorem Hp.begin {σ : St} (ha : allAs σ L) (hp : apart L) : Hp (cov L) σ σ L := ⟨Md.refl _ _, ha, hp, fun _ h _ => h⟩
theorem Hp.one (m : Md S0 σ σ') (h : c.as σ') (hf : ∀ b, c.fp b → b < σ.size → S0 b) : Hp S0 σ σ' [c] :=
  ⟨m, ⟨h, trivial⟩, ⟨fun _ _ h => h, trivial⟩, fun b hb => hb.elim (hf b) (fun h => h.elim)⟩
theorem Hp.tail (H : Hp S0 σ0 σ (c :: R)) : Hp S0 σ0 σ R := ⟨H.md, H.all.2, H.ap.2, fun b hb => H.org b (.inr hb)⟩
theorem Hp.head (H : Hp S0 σ0 σ (c :: R)) : c.as σ := H.all.1
theorem Hp.turn (H : Hp S0 σ0 σ (c :: R)) (h : c.as σ → d.as σ) (hf : ∀ b, d.fp b → c.fp b) : Hp S0 σ0 σ (d :: R) :=
  ⟨H.md, ⟨h H.all.1, H.all.2⟩, ⟨fun b hb => H.ap.1 b (hf b hb), H.ap.2⟩, fun b hb => H.org b (hb.imp (hf b) id)⟩
theorem Hp.add (H : Hp S0 σ0 σ R) (h : d.as σ) (hf : ∀ b, ¬ d.fp b) : Hp S0 σ0 σ (d :: R) :=
  ⟨H.md, ⟨h, H.all⟩, ⟨fun b hb => (hf b hb).elim, H.ap⟩, fun b hb => hb.elim (fun hb => (hf b hb).elim) (H.org b)⟩
theorem Hp.grow (H : Hp S0 σ0 σ L) (m : Md (fun _ => False) σ σ') : Hp S0 σ0 σ' L :=
  ⟨H.md.step m (fun _ _ h => h.elim), allAs_md H.all m (fun _ _ h => h), H.ap, H.org⟩

/-! ## Choosing chunks -/
def nth : List Ch → Nat → Option Ch
  | [], _ => none
  | c :: _, 0 => some c
  | _ :: l, n + 1 => nth l n
def pick : List Ch → Nat → Option (Ch × List Ch)
  | [], _ => none
  | c :: l, 0 => some (c, l)
  | c :: l, n + 1 => match pick l n with
    | some (d, r) => some (d, c :: r)
    | none => none
theorem pick_cov : ∀ {L : List Ch} {i : Nat} {c : Ch} {R : List Ch}, pick L i = some (c, R) → ∀ b, cov L b ↔ c.fp b ∨ cov R b
  | [], _, _, _, h => by cases h
  | c :: l, 0, _, _, h => by cases h; intro b; rfl
  | c :: l, n + 1, d, R, h => by
    intro b
    simp only [pick] at h
    split at h
    · rename_i d' r hp
      cases h
      have := pick_cov hp b
      simp only [cov, this]
      constructor
      · rintro (h | h | h)
        · exact .inr (.inl h)
        · exact .inl h
        · exact .inr (.inr h)
      · rintro (h | h | h)
        · exact .inr (.inl h)
        · exact .inl h
        · exact .inr (.inr h)
    · cases h
theorem pick_all {σ : St} : ∀ {L : List Ch} {i : Nat} {c : Ch} {R : List Ch}, pick L i = some (c, R) → allAs σ L → c.as σ ∧ allAs σ R
  | [], _, _, _, h => by cases h
  | c :: l, 0, _, _, h => by cases h; exact id
  | c :: l, n + 1, d, R, h => by
    simp only [pick] at h
    split at h
    · rename_i d' r hp
      cases h
      rintro ⟨h1, h2⟩
      have := pick_all hp h2
      exact ⟨this.1, h1, this.2⟩
    · cases h
theorem pick_apart : ∀ {L : List Ch} {i : Nat} {c : Ch} {R : List Ch}, pick L i = some (c, R) → apart L → apart (c :: R)
  | [], _, _, _, h => by cases h
  | c :: l, 0, _, _, h => by cases h; exact id
  | c :: l, n + 1, d, R, h => by
    simp only [pick] at h
    split at h
    · rename_i d' r hp
      cases h
      rintro ⟨h1, h2⟩
      have h3 := pick_apart hp h2
      have h4 := pick_cov hp
      refine ⟨fun b hb => ?_, fun b hb => ?_, h3.2⟩
      · rintro (h | h)
        · exact h1 b h ((h4 b).2 (.inl hb))
        · exact h3.1 b hb h
      · exact fun h => h1 b hb ((h4 b).2 (.inr h))
    · cases h
theorem Hp.front (H : Hp S0 σ0 σ L) {i : Nat} (h : pick L i = some (c, R)) : Hp S0 σ0 σ (c :: R) :=
  ⟨H.md, pick_all h H.all, pick_apart h H.ap, fun b hb => H.org b ((pick_cov h b).2 hb)⟩
theorem nth_all {σ : St} : ∀ {L : List Ch} {i : Nat} {c : Ch}, nth L i = some c → allAs σ L → c.as σ
  | [], _, _, h, _ => by cases h
  | _ :: _, 0, _, h, ha => by cases h; exact ha.1
  | _ :: l, n + 1, _, h, ha => nth_all (L := l) (i := n) h ha.2
theorem Hp.get (H : Hp S0 σ0 σ L) {i : Nat} (h : nth L i = some c) : c.as σ := nth_all h H.all

def selL (L : List Ch) : List Nat → List Ch
  | [] => []
  | k :: ks => match nth L k with
    | some c => c :: selL L ks
    | none => selL L ks
def selB (L : List Ch) : List Nat → Bool
  | [] => true
  | k :: ks => (match nth L k with
    | some c => c.dup || ks.all (fun j => !Nat.beq j k)
    | none => false) && selB L ks

theorem sel_cov {L : List Ch} : ∀ {ks : List Nat} {b : Nat}, cov (selL L ks) b → ∃ k ∈ ks, ∃ c, nth L k = some c ∧ c.fp b
  | [], b, h => h.elim
  | k :: ks, b, h => by
    simp only [selL] at h
    split at h
    · rename_i c hc
      rcases h with h | h
      · exact ⟨k, by simp, c, hc, h⟩
      · obtain ⟨j, hj, d, hd, h⟩ := sel_cov h
        exact ⟨j, by simp [hj], d, hd, h⟩
    · obtain ⟨j, hj, d, hd, h⟩ := sel_cov h
      exact ⟨j, by simp [hj], d, hd, h⟩
theorem nth_cov : ∀ {L : List Ch} {k : Nat} {c : Ch} {b : Nat}, nth L k = some c → c.fp b → cov L b
  | [], _, _, _, h, _ => by cases h
  | _ :: _, 0, _, _, h, hb => by cases h; exact .inl hb
  | _ :: l, n + 1, _, _, h, hb => .inr (nth_cov (L := l) (k := n) h hb)
theorem nth_apart : ∀ {L : List Ch} {i j : Nat} {c d : Ch} {b : Nat}, apart L → i ≠ j → nth L i = some c → nth L j = some d → c.fp b → ¬ d.fp b
  | [], _, _, _, _, _, _, _, h, _, _ => by cases h
  | _ :: _, 0, 0, _, _, _, _, hne, _, _, _ => absurd rfl hne
  | e :: l, 0, j + 1, _, _, b, ha, _, h1, h2, hb => by cases h1; exact fun h => ha.1 b hb (nth_cov (L := l) (k := j) h2 h)
  | e :: l, i + 1, 0, _, _, b, ha, _, h1, h2, hb => by cases h2; exact fun h => ha.1 b h (nth_cov (L := l) (k := i) h1 hb)
  | e :: l, i + 1, j + 1, c, d, b, ha, hne, h1, h2, hb => nth_apart (L := l) (i := i) (j := j) ha.2 (fun e => hne (by rw [e])) h1 h2 hb
theorem sel_all {σ : St} {L : List Ch} (H : ∀ k c, nth L k = some c → c.as σ) : ∀ ks : List Nat, allAs σ (selL L ks)
  | [] => trivial
  | k :: ks => by
    simp only [selL]
    split
    · rename_i c hc; exact ⟨H k c hc, sel_all H ks⟩
    · exact sel_all H ks
theorem sel_apart {L : List Ch} (ha : apart L) : ∀ {ks : List Nat}, selB L ks = true → apart (selL L ks)
  | [], _ => trivial
  | k :: ks, h => by
    simp only [selB, Bool.and_eq_true] at h
    obtain ⟨h1, h2⟩ := h
    simp only [selL]
    split
    · rename_i c hc
      rw [hc] at h1
      refine ⟨fun b hb hcv => ?_, sel_apart ha h2⟩
      simp only [Bool.or_eq_true] at h1
      rcases h1 with h1 | h1
      · exact c.hdup h1 b hb
      · obtain ⟨j, hj, d, hd, hdb⟩ := sel_cov hcv
        have := List.all_eq_true.1 h1 j hj
        have hne : j ≠ k := by rintro rfl; simp [Nat.beq_refl] at this
        exact nth_apart ha (Ne.symm hne) hc hd hb hdb
    · exact sel_apart ha h2
theorem Hp.sel (H : Hp S0 σ0 σ L) (ks : List Nat) (h : selB L ks = true) : Hp S0 σ0 σ (selL L ks) :=
  ⟨H.md, sel_all (fun _ _ hk => H.get hk) ks, sel_apart H.ap h, fun b hb => by
    obtain ⟨k, _, c, hc, hb⟩ := sel_cov hb
    exact H.org b (nth_cov hc hb)⟩
theorem Hp.sel' (H : Hp S0 σ0 σ L) (ks : List Nat) {L' : List Ch} (h : selB L ks = true) (e : selL L ks = L') : Hp S0 σ0 σ L' := e ▸ H.sel ks h
end

/-! ## What is known of a chunk -/
section
variable {S0 : BS} {σ0 σ σ' : St} {L R : List Ch} {α : Type} [Rp α] {el lo : Nat} {v : Value} {xs : List α} {i b o : Nat} {cs pre suf : List Value}
theorem Hp.ro (H : Hp S0 σ0 σ L) (i : Nat) (h : nth L i = some (Ch.ro el v xs)) : RS el σ v xs := H.get h
theorem Hp.own (H : Hp S0 σ0 σ L) (i : Nat) (h : nth L i = some (Ch.own lo el v xs)) : Ow σ lo el v xs := H.get h
theorem Hp.bx (H : Hp S0 σ0 σ L) (i : Nat) (h : nth L i = some (Ch.bx lo b o cs pre suf)) : Bx σ b (pre ++ (cs ++ suf)) ∧ pre.length = o ∧ lo ≤ b := H.get h

theorem bx_at {k : Nat} {u : Value} (h : Bx σ b (pre ++ (cs ++ suf)) ∧ pre.length = o ∧ lo ≤ b) (hu : cs[k]? = some u) : HCell σ.w.heap b (o + k) = some u := by
  obtain ⟨⟨T, h1, _⟩, h2, _⟩ := h
  have hk := (List.getElem?_eq_some_iff.1 hu).1
  unfold HCell
  rw [h1]
  simp only [List.getElem?_toArray]
  rw [List.getElem?_append_right (by omega), List.getElem?_append_left (by omega), ← hu]
  congr 1; omega
theorem Hp.cell (H : Hp S0 σ0 σ L) (i k : Nat) {u : Value} {o' : Nat} (h : nth L i = some (Ch.bx lo b o cs pre suf)) (hu : cs[k]? = some u) (ho : o' = o + k) : HCell σ.w.heap b o' = some u := by
  subst ho; exact bx_at (H.bx i h) hu
theorem Hp.cells (H : Hp S0 σ0 σ L) (i : Nat) (h : nth L i = some (Ch.bx lo b o cs pre suf)) : ∀ j, (hj : j < cs.length) → HCell σ.w.heap b (o + j) = some cs[j] :=
  fun j hj => bx_at (H.bx i h) (List.getElem?_eq_getElem hj)
theorem Hp.part (H : Hp S0 σ0 σ L) (i k m : Nat) {us : List Value} (h : nth L i = some (Ch.bx lo b o cs pre suf)) (hu : (cs.drop k).take m = us) (hm : us.length = m) {o' : Nat} (ho : o' = o + k) :
    ∀ j, (hj : j < us.length) → HCell σ.w.heap b (o' + j) = some us[j] := by
  subst ho
  intro j hj
  rw [Nat.add_assoc]
  refine bx_at (H.bx i h) ?_
  have : us[j]? = some us[j] := List.getElem?_eq_getElem hj
  rw [← this, ← hu, List.getElem?_take, if_pos (by omega), List.getElem?_drop]

/-! ## Publishing -/
theorem Hp.pub (H : Hp S0 σ0 σ L) (i : Nat) (h : pick L i = some (Ch.own lo el v xs, R)) (hel : el ≤ lo) : ∃ σ' : St, σ'.w = σ.w ∧ Hp S0 σ0 σ' (Ch.ro el v xs :: R) ∧ Md (fun b => blk v = Option.some b) σ σ' := by
  have H1 := H.front h
  obtain ⟨σ', hw, m, hR⟩ := Ow.pub' (H1.head : Ow σ lo el v xs) hel
  refine ⟨σ', hw, Hp.frame1 (A' := [Ch.ro el v xs]) H1 (Hp.one (m.md.mono fun b hb => .inl hb) hR (fun b hb => hb.elim)), m.md⟩
theorem Hp.roLow (H : Hp S0 σ0 σ L) (i el' : Nat) (h : nth L i = some (Ch.ro el v xs)) (hl : el' ≤ el) : Hp S0 σ0 σ (Ch.ro el' v xs :: L) :=
  H.add (d := Ch.ro el' v xs) ((H.ro i h).low hl) (fun _ h => h)
theorem Hp.ownLow (H : Hp S0 σ0 σ L) (i lo' el' : Nat) (h : pick L i = some (Ch.own lo el v xs, R)) (h1 : lo' ≤ lo) (h2 : el' ≤ el) : Hp S0 σ0 σ (Ch.own lo' el' v xs :: R) :=
  (H.front h).turn (d := Ch.own lo' el' v xs) (fun h : Ow σ lo el v xs => (h.lo h1).low' h2) (fun _ h => h)
theorem Hp.ownSc [Sc α] (H : Hp S0 σ0 σ L) (i lo' el' : Nat) (h : pick L i = some (Ch.own lo el v xs, R)) (h1 : lo' ≤ lo) : Hp S0 σ0 σ (Ch.own lo' el' v xs :: R) :=
  (H.front h).turn (d := Ch.own lo' el' v xs) (fun h : Ow σ lo el v xs => (h.lo h1).sc) (fun _ h => h)
theorem Hp.nilOwn (H : Hp S0 σ0 σ L) (α : Type) [Rp α] (lo el : Nat) : Hp S0 σ0 σ (Ch.own lo el (.slice none 0 0) ([] : List α) :: L) := H.add (d := Ch.own lo el _ _) Ow.nil (fun _ h => by cases h)
theorem Hp.fresh (m : Mod none σ σ') (c : Ch) (h : c.as σ') (hf : ∀ b, c.fp b → σ.size ≤ b) : Hp (cov []) σ σ' [c] :=
  Hp.one (m.md.mono fun b hb => by cases hb) h (fun b hb hlt => absurd hlt (Nat.not_lt.2 (hf b hb)))
theorem Hp.focus {c1 c2 c3 : List Value} (H : Hp S0 σ0 σ L) (i : Nat) (h : pick L i = some (Ch.bx lo b o (c1 ++ (c2 ++ c3)) pre suf, R)) {o' : Nat} (ho : o' = o + c1.length) :
    Hp S0 σ0 σ (Ch.bx lo b o' c2 (pre ++ c1) (c3 ++ suf) :: R) :=
  (H.front h).turn (d := Ch.bx lo b o' c2 (pre ++ c1) (c3 ++ suf)) (fun ⟨h1, h2, h3⟩ => ⟨by simpa [List.append_assoc] using h1, by subst ho; simp [h2], h3⟩) (fun _ h => h)
theorem Hp.unfocus {c1 c2 c3 : List Value} {o' : Nat} (H : Hp S0 σ0 σ L) (i : Nat) (h : pick L i = some (Ch.bx lo b o' c2 (pre ++ c1) (c3 ++ suf), R)) (ho : o' = o + c1.length) :
    Hp S0 σ0 σ (Ch.bx lo b o (c1 ++ (c2 ++ c3)) pre suf :: R) :=
  (H.front h).turn (d := Ch.bx lo b o (c1 ++ (c2 ++ c3)) pre suf) (fun ⟨h1, h2, h3⟩ => ⟨by simpa [List.append_assoc] using h1, by subst ho; simp at h2; omega, h3⟩) (fun _ h => h)
end
end Go.Vs

namespace Go.Vs
open Go

section
variable {P : Program} {ops : Array Oper} {Q : Exit → Act → World → Prop} {n d : Nat} {ρ : Nat → Value} {σ0 σ : St} {S0 : BS} {L R : List Ch} {u v : Value} {rest : List Oper} {dst : Option Nat}
variable {ty T T' E E' : TypeId} {pos : String} {af : Array Edge} {x y : Operand} {a : Int} {α : Type} [Rp α] {xs ys : List α} {z : Value} {s bt lo el : Nat} {gd : Option (Nat × Bool)} {op : Op} {Rz : Value → St → Prop} {Rs : St → Prop}

abbrev Ex (P : Program) (σ : St) (n : Nat) (ρ : Nat → Value) (o : Oper) (Rz : Value → St → Prop) : Prop := ∃ v σ', RunW P σ.w n ρ o v σ'.w ∧ Rz v σ'
abbrev ExS (P : Program) (σ : St) (n : Nat) (ρ : Nat → Value) (o : Oper) (Rs : St → Prop) : Prop := ∃ σ', RunS P σ.w n ρ o σ'.w ∧ Rs σ'

theorem st_ex (he : Ex P σ n ρ ⟨some d, op, ty, pos, af, gd⟩ Rz) (hw : Region.wanted ⟨some d, op, ty, pos, af, gd⟩ (yv ops n ρ) = true)
    (k : ∀ v (σ' : St), Rz v σ' → wpList P ops Q rest (fr n (upd ρ d v)) σ'.w) : wpList P ops Q (⟨some d, op, ty, pos, af, gd⟩ :: rest) (fr n ρ) σ.w := by
  obtain ⟨v, σ', hr, h⟩ := he
  exact st_w hw hr (k v σ' h)
theorem st_exS (he : ExS P σ n ρ ⟨none, op, ty, pos, af, gd⟩ Rs) (hw : Region.wanted ⟨none, op, ty, pos, af, gd⟩ (yv ops n ρ) = true)
    (k : ∀ (σ' : St), Rs σ' → wpList P ops Q rest (fr n ρ) σ'.w) : wpList P ops Q (⟨none, op, ty, pos, af, gd⟩ :: rest) (fr n ρ) σ.w := by
  obtain ⟨σ', hr, h⟩ := he
  exact st_s hw hr (k σ' h)
theorem Mod.md0 {σ σ' : St} (m : Mod Option.none σ σ') : Md (cov []) σ σ' := m.md.mono fun b hb => by cases hb

/-! ## Boxes -/
theorem new_box (H : Hp S0 σ0 σ L) (hlo : lo ≤ σ0.size) (T : TypeId) (cs : List Value) : Hp S0 σ0 (σ.new (.cells cs.toArray T (0, 0)) 0) (Ch.bx lo σ.size 0 cs [] [] :: L) :=
  Hp.frame0 (A' := [Ch.bx lo σ.size 0 cs [] []]) H (Hp.fresh (St.new_mod _ _ _) _ ⟨⟨T, by simpa using St.new_new _ _ _, St.new_vis _ _ _⟩, rfl, Nat.le_trans hlo H.size⟩ (fun b hb => Nat.le_of_eq (Eq.symm hb)))

theorem ex_box {cs : List Value} (H : Hp S0 σ0 σ L) (hlo : lo ≤ σ0.size) (hx : ev n ρ x = v) (hv : v.cells = cs.toArray) :
    Ex P σ n ρ ⟨dst, .box T x, ty, pos, af, gd⟩ fun v σ' => ∃ b, v = pt b 0 ∧ Hp S0 σ0 σ' (Ch.bx lo b 0 cs [] [] :: L) ∧ Md (cov []) σ σ' := by
  refine ⟨_, σ.new (.cells cs.toArray T (0, 0)) 0, ?_, σ.size, rfl, new_box H hlo T cs, (St.new_mod _ _ _).md0⟩
  simp [RunW, execOp, hx, Instr.box, newVar, newRow, newObj, Sem.run, hv, St.new, World.mk']
theorem ex_alloc {cs : List Value} (H : Hp S0 σ0 σ L) (hlo : lo ≤ σ0.size) (hi : TI P T z s bt) (hv : z.cells = cs.toArray) :
    Ex P σ n ρ ⟨dst, .alloc T, ty, pos, af, gd⟩ fun v σ' => ∃ b, v = pt b 0 ∧ Hp S0 σ0 σ' (Ch.bx lo b 0 cs [] [] :: L) ∧ Md (cov []) σ σ' := by
  refine ⟨_, σ.new (.cells cs.toArray T (0, 0)) 0, ?_, σ.size, rfl, new_box H hlo T cs, (St.new_mod _ _ _).md0⟩
  simp [RunW, execOp, Instr.alloc, run_zero hi, newVar, newRow, newObj, Sem.run, hv, St.new, World.mk']

theorem wrL_ctx (vs : List Value) : ∀ (pre cs suf : List Value) (k : Nat), k + vs.length ≤ cs.length → wrL (pre ++ (cs ++ suf)) (pre.length + k) vs = pre ++ (wrL cs k vs ++ suf) := by
  induction vs with
  | nil => intro pre cs suf k _; rfl
  | cons v r ih =>
    intro pre cs suf k hk
    simp only [List.length_cons] at hk
    rw [wrL, wrL, ← ih pre (cs.set k v) suf (k + 1) (by rw [List.length_set]; omega)]
    congr 1
    rw [List.set_append_right _ _ (by omega), List.set_append_left _ _ (by omega)]
    congr 3; omega

theorem ex_store_box {cs vs cs' pre suf : List Value} {b o o' k i : Nat} (H : Hp S0 σ0 σ L) (hp : pick L i = some (Ch.bx lo b o cs pre suf, R)) (hi : TI P T z s bt) (hx : ev n ρ x = pt b o') (ho' : o' = o + k) (hy : ev n ρ y = v) (hv : v.cells = vs.toArray) (hs : vs.length = s)
    (hk : k + vs.length ≤ cs.length) (hpl : ∀ u ∈ vs, plain u = true) (hcs : wrL cs k vs = cs') :
    ExS P σ n ρ ⟨dst, .store T x y, ty, pos, af, gd⟩ fun σ' => Hp S0 σ0 σ' (Ch.bx lo b o cs' pre suf :: R) ∧ Md (fun i => i = b) σ σ' := by
  subst ho' hcs
  have H1 := H.front hp
  obtain ⟨⟨T0, h1, h2⟩, h3, h4⟩ : Bx σ b (pre ++ (cs ++ suf)) ∧ pre.length = o ∧ lo ≤ b := H1.head
  have hb := lt_of_block h1
  have hst := run_storeCells (P := P) b (o + k) T0 vs 0 σ.w (pre ++ (cs ++ suf)).toArray h1 (by simp; omega) hpl
  simp only [Nat.add_zero] at hst
  have m : Md (fun i => i = b) σ (σ.put b (.cells (wr (pre ++ (cs ++ suf)).toArray (o + k) vs) T0 (0, 0))) := (St.put_mod h2).md.mono fun i hi => by cases hi; rfl
  refine ⟨σ.put b (.cells (wr (pre ++ (cs ++ suf)).toArray (o + k) vs) T0 (0, 0)), ?_, ?_, m⟩
  · simp [RunS, execOp, hx, hy, Instr.storeAt, Instr.sureAddr, storeVar, run_typeInfo hi, hv, hs, hst, St.put]
  refine Hp.frame1 (A' := [Ch.bx lo b o (wrL cs k vs) pre suf]) H1 (Hp.one (m.mono fun i hi => .inl hi) ⟨⟨T0, ?_, h2⟩, h3, h4⟩ (fun i hi _ => .inl hi))
  rw [wr_list, ← h3, wrL_ctx vs pre cs suf k hk]
  exact World.put_at _ hb

/-! ## Slices of the function's own -/
theorem frame_own {α β : Type} [Rp α] [Rp β] {el' lo' : Nat} {v' : Value} {xs : List α} {ys : List β} {σ' : St} {i : Nat} (H : Hp S0 σ0 σ L) (hp : pick L i = some (Ch.own lo el v xs, R)) (m : Mod (blk v) σ σ') (h : Ow σ' lo' el' v' ys) (hf : blk v' = blk v ∨ ∀ b, blk v' = some b → σ.size ≤ b) :
    Hp S0 σ0 σ' (Ch.own lo' el' v' ys :: R) :=
  Hp.frame1 (A' := [Ch.own lo' el' v' ys]) (H.front hp) (Hp.one (m.md.mono fun b hb => .inl hb) h (fun b hb hlt => by
    rcases hf with hf | hf
    · exact .inl (hf.symm.trans hb)
    · exact absurd hlt (Nat.not_lt.2 (hf b hb))))
theorem new_own {v' : Value} {σ' : St} (H : Hp S0 σ0 σ L) (hlo : lo ≤ σ0.size) (m : Mod none σ σ') (h : Ow σ' σ.size el v' xs) : Hp S0 σ0 σ' (Ch.own lo el v' xs :: L) :=
  Hp.frame0 (A' := [Ch.own lo el v' xs]) H (Hp.fresh m _ (h.lo (Nat.le_trans hlo H.size)) (fun b hb => h.ge b hb))

theorem ex_store_own {e e' : α} {bl o o' k i : Nat} {vs : List Value} (H : Hp S0 σ0 σ L) (hpk : pick L i = some (Ch.own lo el v xs, R)) (hi : TI P T z s bt) (hg : gidx xs a = some e) (hix : Ix v a (Rp.sz α) bl o) (hx : ev n ρ x = pt bl o') (ho : o' = o + k) (hy : ev n ρ y = u)
    (hu : u.cells = vs.toArray) (hs : vs.length = s) (hk : k + vs.length ≤ Rp.sz α) (hp : ∀ t ∈ vs, plain t = true) (hrp : ∀ cs, Rp.rp el σ cs e → Rp.rp el σ (wrL cs k vs) e') :
    ExS P σ n ρ ⟨dst, .store T x y, ty, pos, af, gd⟩ fun σ' => Hp S0 σ0 σ' (Ch.own lo el v (xs.set a.toNat e') :: R) ∧ Md (fun b => blk v = some b) σ σ' := by
  obtain ⟨σ', hr, m, h⟩ := run_store_own (ty := ty) (pos := pos) (af := af) (gd := gd) (dst := dst) hi ((H.front hpk).head : Ow σ lo el v xs) hg hix hx ho hy hu hs hk hp hrp
  exact ⟨σ', hr, frame_own H hpk m h (.inl rfl), m.md⟩

theorem ex_append {r : List α} {i : Nat} (H : Hp S0 σ0 σ L) (hpk : pick L i = some (Ch.own lo el v xs, R)) (hT : P.underlying T = some (.slice E)) (hT' : P.underlying T' = some (.slice E')) (hi : TI P E z s bt) (hs : s = Rp.sz α) (hzs : z.cells.size = s) (hbt : bt ≤ 1024)
    (hS : Rd el σ u ys) (hr : gapp xs ys = some r) (hlo : lo ≤ σ0.size) (hx : ev n ρ x = v) (hy : ev n ρ y = u) :
    Ex P σ n ρ ⟨dst, .call ⟨.builtin .append, #[x, y], #[T, T']⟩, ty, pos, af, gd⟩ fun v' σ' => ∃ a' c', v' = Sl a' r c' ∧ Hp S0 σ0 σ' (Ch.own lo el (Sl a' r c') r :: R) ∧ Md (fun b => blk v = some b) σ σ' := by
  obtain ⟨hlen, rfl⟩ := gapp_some hr
  obtain ⟨a', c', σ', h1, h2, h3, h4, -⟩ := run_append (ty := ty) hT hT' hi hs hzs hbt ((H.front hpk).head : Ow σ lo el v xs) hS hlen (Nat.le_trans hlo H.size)
  refine ⟨_, σ', ?_, a', c', rfl, frame_own H hpk h2 h3 h4, h2.md⟩
  simp only [RunW, execOp, resolve, List.map_toArray, List.map_cons, List.map_nil, hx, hy, Sem.run_bind, Sem.run_pure, Result.andThen_ok, invoke, builtin, h1]

theorem ex_buildSlice {len : Nat} {parts : Array (Nat × Operand)} {ps : List (Nat × Value)} {cs : List Value} (H : Hp S0 σ0 σ L) (hlo : lo ≤ σ0.size) (hT : P.underlying T = some (.slice E)) (hi : TI P E z s bt)
    (hbig : Nat.ble (len * s) 16777216 = true) (hp : parts.toList.map (fun p => (p.1, ev n ρ p.2)) = ps)
    (hfill : Instr.fill (fun i => some (i * s, s)) ((Array.range (len * s)).map (fun k => (if len * s = 0 then #[] else z.cells)[k % (if len * s = 0 then #[] else z.cells).size]!)) ps = some cs.toArray)
    (hf : Flat el σ cs xs) (hl : xs.length = len) :
    Ex P σ n ρ ⟨dst, .buildSlice T len parts, ty, pos, af, gd⟩ fun v σ' => ∃ b, v = Sl (some ⟨b, 0, none⟩) xs len ∧ Hp S0 σ0 σ' (Ch.own lo el (Sl (some ⟨b, 0, none⟩) xs len) xs :: L) ∧ Md (cov []) σ σ' := by
  obtain ⟨b, σ', hb, hr, hm, hO⟩ := run_buildSlice (lo := σ.size) (dst := dst) (ty := ty) (pos := pos) (af := af) (gd := gd) hT hi hbig hp hfill hf hl (Nat.le_refl _)
  exact ⟨_, σ', hr, b, rfl, new_own H hlo hm hO, hm.md0⟩

theorem ex_make {z0 : α} {zs : List Value} (H : Hp S0 σ0 σ L) (hlo : lo ≤ σ0.size) (hT : P.underlying T = some (.slice E)) (hi : TI P E z s bt) (hs : s = Rp.sz α) (hzc : z.cells = zs.toArray) (hz : Rp.rp el σ zs z0) (hbt : bt ≤ 1024)
    (hr : gmake a z0 = some xs) (hx : ev n ρ x = I a) (hy : ev n ρ y = I a) :
    Ex P σ n ρ ⟨dst, .makeSlice T x y, ty, pos, af, gd⟩ fun v σ' => ∃ b c', v = Sl (some ⟨b, 0, none⟩) xs c' ∧ c' = a.toNat ∧ Hp S0 σ0 σ' (Ch.own lo el (Sl (some ⟨b, 0, none⟩) xs c') xs :: L) ∧ Md (cov []) σ σ' := by
  obtain ⟨b, σ', c', hc', hrun, m, h⟩ := run_make (lo := σ.size) (ty := ty) (pos := pos) (af := af) (gd := gd) (dst := dst) hT hi hs hzc hz hbt hr hx hy (Nat.le_refl _)
  exact ⟨_, σ', hrun, b, c', rfl, hc', new_own H hlo m h, m.md0⟩

theorem Hp.arr {b k i : Nat} {xs : List Int} (H : Hp S0 σ0 σ L) (hp : pick L i = some (Ch.bx lo b 0 (xs.map I) [] [], R)) (hx : xs.length = k) : Hp S0 σ0 σ (Ch.own lo el (Sl (some ⟨b, 0, none⟩) xs k) xs :: R) := by
  refine (H.front hp).turn (d := Ch.own lo el (Sl (some ⟨b, 0, none⟩) xs k) xs) (fun ⟨h1, _, h3⟩ => ?_) (fun i h => ?_)
  · simp only [List.nil_append, List.append_nil] at h1
    have := h1.ow (flat_ints (el := el) xs) h3
    rw [hx] at this; exact this
  · have : blk (Sl (some ⟨b, 0, none⟩) xs k) = some b := rfl
    exact (Option.some.inj (this.symm.trans h)).symm

/-! ## Calls -/
structure Cal2 (P : Program) (f : FuncId) (args : List Value) (pre : List Ch) (post : Nat → Value → List Ch → Prop) : Prop where
  fn : ∃ fn c, P.funcs[f]? = some fn ∧ (fn.name == "runtime.NumGoroutine") = false ∧ fn.body = some c
  runs : ∀ (σ : St) (m : Nat), m ≤ σ.size → Hp (cov pre) σ σ pre → Calls P f args.toArray σ.w fun e w' => ∃ v σ' L', e = .returned v ∧ w' = σ'.w ∧ post m v L' ∧ Hp (cov pre) σ σ' L'

def Post2 (post : Value → List Ch → Prop) (σ0 : St) (S0 : BS) (e : Ending) (w' : World) : Prop := ∃ v σ' L', e = .returned v ∧ w' = σ'.w ∧ post v L' ∧ Hp S0 σ0 σ' L'

theorem cal2 {f : FuncId} {fn : Func} {c : Code} {l : List Value} {pre : List Ch} {post : Nat → Value → List Ch → Prop} (hf : P.funcs[f]? = some fn) (hnm : (fn.name == "runtime.NumGoroutine") = false) (hb : fn.body = some c) (hn : fn.ntmps = n) (hl : Nat.ble l.length n = true)
    (h : ∀ (S0 : BS) (σ0 : St) (n0 : Nat), n0 ≤ σ0.size → Hp S0 σ0 σ0 pre → c.wp P (bodyPost P fn (Post2 (post n0) σ0 S0)) (fr n (argsρ l)) σ0.w) : Cal2 P f l pre post :=
  ⟨⟨fn, c, hf, hnm, hb⟩, fun σ m hm H => enter hf hb hn hl (h _ σ m hm H)⟩
theorem fin_ret {fn : Func} {post : Value → List Ch → Prop} {L' : List Ch} (hr : (results fn (fr n ρ).tmps).run P σ.w = .ok v σ.w) (hp : post v L') (H : Hp S0 σ0 σ L') : bodyPost P fn (Post2 post σ0 S0) .ret (fr n ρ) σ.w :=
  bodyPost_ret (v := v) hr rfl ⟨v, σ, L', rfl, rfl, hp, H⟩
theorem fin_end {fn : Func} {post : Value → List Ch → Prop} {L' : List Ch} (hr : (results fn (fr n ρ).tmps).run P σ.w = .ok v σ.w) (hp : post v L') (H : Hp S0 σ0 σ L') : bodyPost P fn (Post2 post σ0 S0) .normal (fr n ρ) σ.w :=
  bodyPost_end (v := v) hr rfl ⟨v, σ, L', rfl, rfl, hp, H⟩

theorem Cal2.frame {f : FuncId} {args : List Value} {A : List Ch} {post : Nat → Value → List Ch → Prop} (hc : Cal2 P f args A post) (H : Hp S0 σ0 σ (A ++ R)) {m : Nat} (hm : m ≤ σ.size) :
    Calls P f args.toArray σ.w fun e w' => ∃ v σ' L', e = .returned v ∧ w' = σ'.w ∧ post m v L' ∧ Hp S0 σ0 σ' (L' ++ R) ∧ Md (cov A) σ σ' := by
  refine (hc.runs σ m hm (Hp.begin (allAs_append.1 H.all).1 (apart_append.1 H.ap).1)).mono ?_
  rintro e w' ⟨v, σ', L', rfl, rfl, hp, H'⟩
  exact ⟨v, σ', L', rfl, rfl, hp, H.frame H', H'.md⟩

def Enters (P : Program) (n : Nat) (ρ : Nat → Value) (o : Oper) (f : FuncId) (args : List Value) (w : World) : Prop := (execOp (ev n ρ) o).run P w = .ok (.enter f args.toArray) w
def Cx (P : Program) (σ : St) (n : Nat) (ρ : Nat → Value) (o : Oper) (Rz : Value → St → Prop) : Prop :=
  ∃ f args, Enters P n ρ o f args σ.w ∧ Calls P f args.toArray σ.w fun e w' => ∃ v σ', e = .returned v ∧ w' = σ'.w ∧ Rz v σ'

theorem cx_call {f : FuncId} {args : List Value} {A : List Ch} {post : Nat → Value → List Ch → Prop} {o : Oper} (hc : Cal2 P f args A post) (he : Enters P n ρ o f args σ.w) {m : Nat} (hm : m ≤ σ0.size) (H : Hp S0 σ0 σ (A ++ R)) :
    Cx P σ n ρ o fun v σ' => ∃ L', post m v L' ∧ Hp S0 σ0 σ' (L' ++ R) ∧ Md (cov A) σ σ' :=
  ⟨f, args, he, (hc.frame H (Nat.le_trans hm H.size)).mono (by rintro e w' ⟨v, σ', L', rfl, rfl, hp, H', m⟩; exact ⟨v, σ', rfl, rfl, L', hp, H', m⟩)⟩
theorem st_cx {o : Oper} (hd : o.dst = dst) (hc : Cx P σ n ρ o Rz) (hw : Region.wanted o (yv ops n ρ) = true)
    (k : ∀ v (σ' : St), Rz v σ' → wpList P ops Q rest ((fr n ρ).put dst v) σ'.w) : wpList P ops Q (o :: rest) (fr n ρ) σ.w := by
  subst hd
  obtain ⟨f, args, he, hc⟩ := hc
  unfold wpList
  rw [yielded_fr, if_pos hw]
  refine .inl ?_
  unfold Oper.wp
  rw [fr_eval, show (execOp (ev n ρ) o).run P σ.w = _ from he, Oper.upon_enter]
  refine hc.mono ?_
  rintro e w' ⟨v, σ', rfl, rfl, h⟩
  exact k v σ' h
theorem st_call (hc : Cx P σ n ρ ⟨some d, op, ty, pos, af, gd⟩ Rz) (hw : Region.wanted ⟨some d, op, ty, pos, af, gd⟩ (yv ops n ρ) = true)
    (k : ∀ v (σ' : St), Rz v σ' → wpList P ops Q rest (fr n (upd ρ d v)) σ'.w) : wpList P ops Q (⟨some d, op, ty, pos, af, gd⟩ :: rest) (fr n ρ) σ.w :=
  st_cx rfl hc hw (fun v σ' h => by rw [fr_put]; exact k v σ' h)
theorem ent_f {f : FuncId} {args : List Value} {xs : Array Operand} {Ts : Array TypeId} {w : World} (hf : ∃ fn c, P.funcs[f]? = some fn ∧ (fn.name == "runtime.NumGoroutine") = false ∧ fn.body = some c) (hx : xs.toList.map (ev n ρ) = args) :
    Enters P n ρ ⟨dst, .call ⟨.value (.func f), xs, Ts⟩, ty, pos, af, gd⟩ f args w := run_call hf hx
theorem ent_v {f : FuncId} {args : List Value} {xs : Array Operand} {Ts : Array TypeId} {w : World} {c : Operand} {cap : List Value} (hf : ∃ fn c, P.funcs[f]? = some fn ∧ (fn.name == "runtime.NumGoroutine") = false ∧ fn.body = some c)
    (hc : ev n ρ c = .func (.func f) #[] cap.toArray) (hx : xs.toList.map (ev n ρ) ++ cap = args) :
    Enters P n ρ ⟨dst, .call ⟨.value c, xs, Ts⟩, ty, pos, af, gd⟩ f args w := by
  obtain ⟨fn, c, h1, h2, h3⟩ := hf
  replace hx : xs.map (ev n ρ) ++ cap.toArray = args.toArray := by
    rw [← hx]; apply Array.ext'; simp
  simp only [Enters, execOp, resolve, hc, Deferred.ofValue, Sem.run_bind, Sem.run_pure, Result.andThen_ok, invoke, callFunc, run_program, Array.empty_append, hx, h1, h2, h3]
  simp
end
end Go.Vs

namespace Go.Vs
open Go

def dstOf (ops : Array Oper) (j : Nat) : Option Nat := (ops[j]?).bind (·.dst)
def waits (o : Oper) (j : Nat) : Bool := o.after.toList.any fun e => Nat.beq e.on j && Region.binds .any e
def reach (ops : Array Oper) : Nat → Nat → Nat → Bool
  | 0, _, _ => false
  | f + 1, j, i => match ops[j]? with
    | none => false
    | some o => waits o i || o.after.toList.any fun e => Region.binds .any e && reach ops f e.on i
def ph (E : List Nat) (listed : Array Bool) : List Bool := E.map fun e => listed.getD e false
def stepPh (E : List Nat) (i : Nat) (p : List Bool) : List Bool := List.zipWith (fun e b => b || Nat.beq e i) E p
def mayB (ops : Array Oper) (E : List Nat) (i : Nat) (p : List Bool) : Bool :=
  (List.zip E p).all fun (e, b) => (!reach ops ops.size i e || b) && (!reach ops ops.size e i || !b) && (!Nat.beq e i || !b)
def befB (ops : Array Oper) (n i j : Nat) : Bool := Nat.blt j n && !Nat.beq j i && !reach ops ops.size j i

def rgB (N : Nat) (ops : Array Oper) (n : Nat) (E : List Nat) (Ps : List (List Bool)) (Al : List (List (Nat × Nat))) (kend : Nat) : Bool :=
  Nat.ble n ops.size && ((List.range n).all fun i => (match dstOf ops i with | some d => Nat.blt d N | none => true) && (match ops[i]? with | some o => o.after.toList.all (fun e => !Region.binds .any e || Nat.blt e.on i) | none => false) &&
    (List.range n).all fun j => Nat.beq i j || (match dstOf ops i with | some _ => !(dstOf ops i == dstOf ops j) | none => true)) &&
  ((List.range ops.size).all fun j => Nat.blt j n || (List.range n).all fun i => reach ops ops.size j i) &&
  Region.seqB .any ops (ops.size - n) n ((List.range ops.size).map (fun i => Nat.blt i n)).toArray &&
  (Ps.getD 0 [true] == E.map fun _ => false) && (Ps.getD kend [] == E.map fun e => Nat.blt e n) && ((List.range Ps.length).all fun k => !(Ps.getD k [] == E.map fun e => Nat.blt e n) || Nat.beq k kend) &&
  ((List.range n).all fun i => (List.range Ps.length).all fun k => !mayB ops E i (Ps.getD k []) || (Al.getD i []).any fun (a, b) => Nat.beq a k && (Ps[b]? == some (stepPh E i (Ps.getD k []))))

section
variable {P : Program} {ops : Array Oper} {Q : Exit → Act → World → Prop} {N n : Nat} {ρ0 : Nat → Value} {Nm : Type} {J : Nat → Nm → St → Prop} {V : Nat → Nm → Value}

def DoesP (P : Program) (ops : Array Oper) (N n : Nat) (J : Nat → Nm → St → Prop) (V : Nat → Nm → Value) (ρ : Nat → Value) (σ : St) (nm : Nm) (i : Nat) (o : Oper) (k' : Nat) : Prop :=
  (Region.wanted o (yv ops N ρ) = true ∧ ((∃ v σ' nm', (execOp (ev N ρ) o).run P σ.w = .ok (.value v) σ'.w ∧ V i nm' = v ∧ J k' nm' σ' ∧ ∀ j, befB ops n i j = true → V j nm' = V j nm) ∨
      (∃ σ' nm', o.dst = none ∧ (execOp (ev N ρ) o).run P σ.w = .ok .skip σ'.w ∧ J k' nm' σ' ∧ ∀ j, befB ops n i j = true → V j nm' = V j nm) ∨
      ∃ f args, (execOp (ev N ρ) o).run P σ.w = .ok (.enter f (List.toArray args)) σ.w ∧ Calls P f args.toArray σ.w fun e w' => ∃ v σ' nm', e = .returned v ∧ w' = σ'.w ∧ V i nm' = v ∧ J k' nm' σ' ∧ ∀ j, befB ops n i j = true → V j nm' = V j nm)) ∨
  (Region.wanted o (yv ops N ρ) = false ∧ V i nm = undef ∧ J k' nm σ)

structure RInv (ops : Array Oper) (N n : Nat) (E : List Nat) (Ps : List (List Bool)) (ρ0 : Nat → Value) (J : Nat → Nm → St → Prop) (V : Nat → Nm → Value) (listed : Array Bool) (ρ : Nat → Value) (σ : St) : Prop where
  size : listed.size = ops.size
  off : ∀ t, (∀ i, i < n → dstOf ops i ≠ some t) → ρ t = ρ0 t
  st : ∃ nm k, Ps[k]? = some (ph E listed) ∧ J k nm σ ∧ ∀ i, i < n → listed.getD i false = true → ∀ d, dstOf ops i = some d → look N ρ d = V i nm
  low : ∀ i, n ≤ i → listed.getD i false = false
  closed : ∀ i o, listed.getD i false = true → ops[i]? = some o → ∀ j, waits o j = true → listed.getD j false = true

theorem reach_listed {listed : Array Bool} (hcl : ∀ i o, listed.getD i false = true → ops[i]? = some o → ∀ j, waits o j = true → listed.getD j false = true) {i : Nat} :
    ∀ (f j : Nat) (o : Oper), ops[j]? = some o → (∀ k, waits o k = true → listed.getD k false = true) → reach ops f j i = true → listed.getD i false = true := by
  intro f
  induction f with
  | zero => intro j o _ _ h; cases h
  | succ f ih =>
    intro j o ho hw h
    rw [reach, ho] at h
    simp only [Bool.or_eq_true] at h
    rcases h with h | h
    · exact hw i h
    · obtain ⟨e, he, h⟩ := List.any_eq_true.1 h
      simp only [Bool.and_eq_true] at h
      have h1 : waits o e.on = true := List.any_eq_true.2 ⟨e, he, by simp only [Bool.and_eq_true]; exact ⟨Nat.beq_refl _, h.1⟩⟩
      have h2 := hw _ h1
      cases f with
      | zero => cases h.2
      | succ f' =>
        cases ho' : ops[e.on]? with
        | none => have := h.2; rw [reach, ho'] at this; cases this
        | some o' => exact ih e.on o' ho' (fun k hk => hcl _ _ h2 ho' k hk) h.2
theorem listed_full {listed : Array Bool} (hs : listed.size = ops.size) (hlow : ∀ i, n ≤ i → listed.getD i false = false) (hall : ∀ i, i < n → listed.getD i false = true) :
    listed = ((List.range ops.size).map (fun i => Nat.blt i n)).toArray := by
  apply Array.ext_getElem?
  intro i
  by_cases hi : i < ops.size
  · have h1 : listed[i]? = some (listed.getD i false) := by simp [Array.getD, hs, hi]
    rw [h1]
    simp only [List.getElem?_toArray, List.getElem?_map]
    rw [List.getElem?_range hi]
    simp only [Option.map_some, Option.some.injEq]
    by_cases hn : i < n
    · rw [hall i hn, blt_t hn]
    · rw [hlow i (by omega), blt_f hn]
  · rw [Array.getElem?_eq_none (by omega)]
    simp [hi]
theorem countP_set {listed : Array Bool} {i n : Nat} (hi : i < n) (h0 : listed.getD i false = false) (hs : i < listed.size) :
    (List.range n).countP (fun j => !listed.getD j false) = (List.range n).countP (fun j => !(listed.setIfInBounds i true).getD j false) + 1 := by
  induction n with
  | zero => omega
  | succ n ih =>
    rw [List.range_succ, List.countP_append, List.countP_append]
    by_cases h : i = n
    · subst h
      have e1 : (List.range i).countP (fun j => !listed.getD j false) = (List.range i).countP (fun j => !(listed.setIfInBounds i true).getD j false) := by
        refine List.countP_congr fun j hj => ?_
        rw [getD_set_ne false (by have := List.mem_range.1 hj; omega)]
      have e2 : (listed.setIfInBounds i true).getD i false = true := by simp [Array.getD, hs]
      rw [e1]
      simp only [List.countP_cons, List.countP_nil, h0, e2]
      rfl
    · have := ih (by omega)
      have e : (listed.setIfInBounds i true).getD n false = listed.getD n false := getD_set_ne false h
      rw [this]
      simp only [List.countP_cons, List.countP_nil, e]
      omega
theorem ph_set {E : List Nat} {listed : Array Bool} {i : Nat} (hs : i < listed.size) : ph E (listed.setIfInBounds i true) = stepPh E i (ph E listed) := by
  induction E with
  | nil => rfl
  | cons e E ih =>
    simp only [ph, stepPh, List.map_cons, List.zipWith_cons_cons] at ih ⊢
    rw [ih]
    congr 1
    by_cases h : e = i
    · subst h; simp [Array.getD, hs]
    · rw [getD_set_ne false (Ne.symm h), beq_f h, Bool.or_false]
theorem zip_ph {listed : Array Bool} {e : Nat} {b : Bool} : ∀ {E : List Nat}, (e, b) ∈ List.zip E (ph E listed) → b = listed.getD e false
  | [], h => by cases h
  | a :: E, h => by
    simp only [ph, List.map_cons, List.zip_cons_cons, List.mem_cons, Prod.mk.injEq] at h
    rcases h with ⟨rfl, rfl⟩ | h
    · rfl
    · exact zip_ph (E := E) h
theorem ph_empty {E : List Nat} {m : Nat} : ph E (Array.replicate m false) = E.map fun _ => false := by
  unfold ph
  exact List.map_congr_left fun e _ => getD_replicate_false _ _
theorem ph_full {E : List Nat} {m : Nat} (hE : ∀ e ∈ E, e < n → e < m) : ph E ((List.range m).map (fun i => Nat.blt i n)).toArray = E.map fun e => Nat.blt e n := by
  unfold ph
  refine List.map_congr_left fun e he => ?_
  by_cases hm : e < m
  · simp [Array.getD, hm]
  · have : ¬ e < n := fun h => hm (hE e he h)
    rw [blt_f this]
    simp [Array.getD, hm]

theorem wpAny_rg {E : List Nat} {Ps : List (List Bool)} {Al : List (List (Nat × Nat))} {kend : Nat} (hB : rgB N ops n E Ps Al kend = true)
    (hop : ∀ i o k k', i < n → ops[i]? = some o → (k, k') ∈ Al.getD i [] → ∀ nm ρ σ, J k nm σ → (∀ t, (∀ i, i < n → dstOf ops i ≠ some t) → ρ t = ρ0 t) →
      (∀ j, waits o j = true → j < n → ∀ d, dstOf ops j = some d → look N ρ d = V j nm) → DoesP P ops N n J V ρ σ nm i o k')
    (hk : ∀ nm ρ σ, J kend nm σ → (∀ t, (∀ i, i < n → dstOf ops i ≠ some t) → ρ t = ρ0 t) → (∀ i, i < n → ∀ d, dstOf ops i = some d → look N ρ d = V i nm) →
      wpList P ops Q (ops.toList.drop n) (fr N ρ) σ.w) :
    ∀ (fuel : Nat) (listed : Array Bool) (ρ : Nat → Value) (σ : St), RInv ops N n E Ps ρ0 J V listed ρ σ → (List.range n).countP (fun i => !listed.getD i false) + (ops.size - n) = fuel →
      wpAny P .any ops Q fuel listed (fr N ρ) σ.w := by
  simp only [rgB, Bool.and_eq_true] at hB
  obtain ⟨⟨⟨⟨⟨⟨⟨hn, hd⟩, hw⟩, hseq⟩, _⟩, hend⟩, huniq⟩, hal⟩ := hB
  have hn := Nat.le_of_ble_eq_true hn
  have hdst : ∀ i d, i < n → dstOf ops i = some d → d < N := by
    intro i d hi h
    have := List.all_eq_true.1 hd i (List.mem_range.2 hi)
    simp only [Bool.and_eq_true] at this
    have h1 := this.1.1
    rw [h] at h1
    refine Classical.byContradiction fun hc => ?_
    simp only [blt_f hc] at h1; cases h1
  have hback : ∀ i o, i < n → ops[i]? = some o → ∀ e ∈ o.after.toList, Region.binds .any e = true → e.on < i := by
    intro i o hi ho e he hb
    have := List.all_eq_true.1 hd i (List.mem_range.2 hi)
    simp only [Bool.and_eq_true] at this
    have h1 := this.1.2
    rw [ho] at h1
    have := List.all_eq_true.1 h1 e he
    simp only [hb, Bool.not_true, Bool.false_or] at this
    refine Classical.byContradiction fun hc => ?_
    rw [blt_f hc] at this; cases this
  have hne : ∀ i j d, i < n → j < n → i ≠ j → dstOf ops i = some d → dstOf ops j ≠ some d := by
    intro i j d hi hj hij hdi hdj
    have := List.all_eq_true.1 hd i (List.mem_range.2 hi)
    simp only [Bool.and_eq_true] at this
    have := List.all_eq_true.1 this.2 j (List.mem_range.2 hj)
    rw [hdi, hdj] at this
    simp [beq_f hij] at this
  have hwait : ∀ j i o, n ≤ j → i < n → ops[j]? = some o → reach ops ops.size j i = true := by
    intro j i o hj hi ho
    have hlt := (Array.getElem?_eq_some_iff.1 ho).1
    have := List.all_eq_true.1 hw j (List.mem_range.2 hlt)
    rw [blt_f (by omega), Bool.false_or] at this
    exact List.all_eq_true.1 this i (List.mem_range.2 hi)
  have fin : ∀ (listed : Array Bool) (ρ : Nat → Value) (σ : St), RInv ops N n E Ps ρ0 J V listed ρ σ → (∀ i, i < n → listed.getD i false = true) →
      listed = ((List.range ops.size).map (fun i => Nat.blt i n)).toArray ∧ wpList P ops Q (ops.toList.drop n) (fr N ρ) σ.w := by
    intro listed ρ σ inv hall
    have hfull := listed_full inv.size inv.low hall
    refine ⟨hfull, ?_⟩
    obtain ⟨nm, k, hp, hJ, hrel⟩ := inv.st
    rw [hfull, ph_full (fun e _ h => by omega)] at hp
    have hkl := (List.getElem?_eq_some_iff.1 hp).1
    have := List.all_eq_true.1 huniq k (List.mem_range.2 hkl)
    have e1 : Ps.getD k [] = E.map fun e => Nat.blt e n := by simp [List.getD, hp]
    rw [e1] at this
    simp only [beq_self_eq_true, Bool.not_true, Bool.false_or] at this
    have := Nat.eq_of_beq_eq_true this
    subst this
    exact hk nm ρ σ hJ inv.off (fun i hi d hd => hrel i hi (hall i hi) d hd)
  intro fuel
  induction fuel with
  | zero =>
    intro listed ρ σ inv hf
    have hall : ∀ i, i < n → listed.getD i false = true := by
      intro i hi
      have h0 : (List.range n).countP (fun i => !listed.getD i false) = 0 := by omega
      have := List.countP_eq_zero.1 h0 i (List.mem_range.2 hi)
      simpa using this
    obtain ⟨hfull, hh⟩ := fin listed ρ σ inv hall
    have hdr : ops.toList.drop n = [] := by rw [List.drop_eq_nil_iff]; simp; omega
    rw [hdr] at hh
    refine ⟨?_, hh⟩
    have : Region.seqB .any ops 0 n listed = true := by
      rw [hfull]
      have e : ops.size - n = 0 := by omega
      rw [e] at hseq; exact hseq
    simpa [Region.seqB] using this
  | succ fuel ih =>
    intro listed ρ σ inv hf
    by_cases hall : ∀ i, i < n → listed.getD i false = true
    · -- only the tail is left
      obtain ⟨hfull, hh⟩ := fin listed ρ σ inv hall
      have h0 : (List.range n).countP (fun i => !listed.getD i false) = 0 := by
        rw [List.countP_eq_zero]
        intro i hi
        simp [hall i (List.mem_range.1 hi)]
      have := wpAny_of_seq (md := .any) (Q' := Q) (P := P) (ops.toList.drop n) n listed (fr N ρ) σ.w (fun j => by simp [List.getElem?_drop]) (by
        rw [hfull, List.length_drop, Array.length_toList]; exact hseq) hh
      rw [List.length_drop, Array.length_toList] at this
      rw [show fuel + 1 = ops.size - n by omega]
      exact this
    · -- some operation of the head is still to come
      have hexists : ∃ i, i < n ∧ listed.getD i false = false := by
        refine Classical.byContradiction fun hc => hall fun i hi => ?_
        cases h : listed.getD i false with
        | true => rfl
        | false => exact absurd ⟨i, hi, h⟩ hc
      have step : ∀ i ∈ Region.ready .any ops listed, wpOp P ops Q i (wpAny P .any ops Q fuel (listed.setIfInBounds i true)) (fr N ρ) σ.w := by
        intro i hi
        obtain ⟨h1, o, ho, h2⟩ := mem_ready.1 hi
        have hlt := (Array.getElem?_eq_some_iff.1 ho).1
        have hls : i < listed.size := by rw [inv.size]; exact hlt
        have hwj : ∀ j, waits o j = true → listed.getD j false = true := by
          intro j hj
          obtain ⟨e, he, hb⟩ := List.any_eq_true.1 hj
          simp only [Bool.and_eq_true] at hb
          have := Nat.eq_of_beq_eq_true hb.1
          subst this
          exact h2 e (by simpa using he) hb.2
        have hin : i < n := by
          refine Classical.byContradiction fun hc => ?_
          obtain ⟨k, hk1, hk2⟩ := hexists
          have := reach_listed inv.closed _ i o ho hwj (hwait i k o (by omega) hk1 ho)
          rw [hk2] at this; cases this
        have hi0 : listed.getD i false = false := by
          simp only [Array.getD, hls, dif_pos] at h1 ⊢
          exact h1
        -- what has come up did not wait for this one
        have hbef : ∀ j, j < n → i ≠ j → listed.getD j false = true → befB ops n i j = true := by
          intro j hj hij hl
          have : reach ops ops.size j i = false := by
            cases hr : reach ops ops.size j i with
            | false => rfl
            | true =>
              obtain ⟨oj, hoj⟩ : ∃ oj, ops[j]? = some oj := by rw [Array.getElem?_eq_getElem (by omega)]; exact ⟨_, rfl⟩
              have := reach_listed inv.closed _ j oj hoj (fun k hk => inv.closed j oj hl hoj k hk) hr
              rw [hi0] at this; cases this
          simp only [befB, blt_t hj, beq_f (Ne.symm hij), this, Bool.not_false, Bool.and_self]
        obtain ⟨nm, k, hp, hJ, hrel⟩ := inv.st
        have hkl := (List.getElem?_eq_some_iff.1 hp).1
        have ek : Ps.getD k [] = ph E listed := by simp [List.getD, hp]
        have hmay : mayB ops E i (ph E listed) = true := by
          unfold mayB
          refine List.all_eq_true.2 fun ⟨e, b⟩ heb => ?_
          have hb : b = listed.getD e false := zip_ph heb
          subst hb
          simp only [Bool.and_eq_true, Bool.or_eq_true, Bool.not_eq_true']
          refine ⟨⟨?_, ?_⟩, ?_⟩
          · cases hr : reach ops ops.size i e with
            | false => exact .inl rfl
            | true => exact .inr (reach_listed inv.closed _ i o ho hwj hr)
          · cases hr : reach ops ops.size e i with
            | false => exact .inl rfl
            | true =>
              right
              cases hl : listed.getD e false with
              | false => rfl
              | true =>
                cases hoe : ops[e]? with
                | none =>
                  cases hsz : ops.size with
                  | zero => omega
                  | succ q => rw [hsz, reach, hoe] at hr; cases hr
                | some oe =>
                  have := reach_listed inv.closed _ e oe hoe (fun k hk => inv.closed e oe hl hoe k hk) hr
                  rw [hi0] at this; cases this
          · by_cases hei : e = i
            · subst hei; exact .inr hi0
            · exact .inl (beq_f hei)
        have h3 := List.all_eq_true.1 (List.all_eq_true.1 hal i (List.mem_range.2 hin)) k (List.mem_range.2 hkl)
        rw [ek, hmay] at h3
        simp only [Bool.not_true, Bool.false_or] at h3
        obtain ⟨⟨ka, k'⟩, hmem, h4⟩ := List.any_eq_true.1 h3
        simp only [Bool.and_eq_true, beq_iff_eq] at h4
        have := Nat.eq_of_beq_eq_true h4.1
        subst this
        have hp' : Ps[k']? = some (ph E (listed.setIfInBounds i true)) := by rw [ph_set hls]; exact h4.2
        have hdo := hop i o ka k' hin ho hmem nm ρ σ hJ inv.off (fun j hj hjn d hd => hrel j hjn (hwj j hj) d hd)
        have next : ∀ v (σ' : St) nm', V i nm' = v → J k' nm' σ' → (∀ j, befB ops n i j = true → V j nm' = V j nm) → ∀ a', a' = (fr N ρ).put o.dst v → wpAny P .any ops Q fuel (listed.setIfInBounds i true) a' σ'.w := by
          rintro v σ' nm' hV hJ' hst a' rfl
          have key : ∀ ρ', (fr N ρ).put o.dst v = fr N ρ' → (∀ t, (∀ i, i < n → dstOf ops i ≠ some t) → ρ' t = ρ0 t) → (∀ j, j < n → (listed.setIfInBounds i true).getD j false = true → ∀ d, dstOf ops j = some d → look N ρ' d = V j nm') →
              wpAny P .any ops Q fuel (listed.setIfInBounds i true) ((fr N ρ).put o.dst v) σ'.w := by
            intro ρ' e hoff hrel'
            rw [e]
            refine ih _ _ _ ⟨by simp [inv.size], hoff, ⟨nm', k', hp', hJ', hrel'⟩, ?_, ?_⟩ ?_
            · intro j hj
              rw [getD_set_ne false (by omega)]
              exact inv.low j hj
            · intro j oj hj hoj q hq
              by_cases hij : i = j
              · subst hij
                rw [ho] at hoj; cases hoj
                exact getD_set_true (hwj q hq)
              · rw [getD_set_ne false hij] at hj
                exact getD_set_true (inv.closed j oj hj hoj q hq)
            · have := countP_set (listed := listed) (i := i) (n := n) hin hi0 hls
              omega
          cases hod : o.dst with
          | none =>
            have hdn : dstOf ops i = none := by simp [dstOf, ho, hod]
            refine hod ▸ key ρ (by rw [hod, fr_put_none]) inv.off ?_
            intro j hj hl d' hd'
            by_cases hij : i = j
            · subst hij; rw [hdn] at hd'; cases hd'
            · rw [getD_set_ne false hij] at hl
              rw [hst j (hbef j hj hij hl)]
              exact hrel j hj hl d' hd'
          | some d =>
            have hdi : dstOf ops i = some d := by simp [dstOf, ho, hod]
            have hdN := hdst i d hin hdi
            refine hod ▸ key (upd ρ d v) (by rw [hod, fr_put]) ?_ ?_
            · intro t ht
              have : t ≠ d := fun e => ht i hin (e ▸ hdi)
              show (bif Nat.beq t d then v else ρ t) = _
              rw [beq_f this]
              exact inv.off t ht
            · intro j hj hl d' hd'
              by_cases hij : i = j
              · subst hij
                rw [hdi] at hd'; cases hd'
                have : look N (upd ρ d v) d = v := by
                  rw [look_lt _ hdN]; show (bif Nat.beq d d then v else _) = v; rw [beq_t]; rfl
                rw [this, hV]
              · rw [getD_set_ne false hij] at hl
                have hne' : d' ≠ d := fun e => hne i j d hin hj hij hdi (e ▸ hd')
                have : look N (upd ρ d v) d' = look N ρ d' := by
                  unfold look
                  have : upd ρ d v d' = ρ d' := by show (bif Nat.beq d' d then v else ρ d') = _; rw [beq_f hne']; rfl
                  rw [this]
                rw [this, hst j (hbef j hj hij hl)]
                exact hrel j hj hl d' hd'
        unfold wpOp
        rw [ho]
        simp only [yielded_fr]
        rcases hdo with ⟨hwant, hrun⟩ | ⟨hwant, hV, hJ'⟩
        · rw [if_pos hwant]
          refine .inl ?_
          unfold Oper.wp
          rw [fr_eval]
          rcases hrun with ⟨v, σ', nm', hr, hV, hJ', hst⟩ | ⟨σ', nm', hnd, hr, hJ', hst⟩ | ⟨f, args, hr, hc⟩
          · rw [hr, Oper.upon_value]
            exact next v σ' nm' hV hJ' hst _ rfl
          · rw [hr, Oper.upon_skip]
            exact next _ σ' nm' rfl hJ' hst _ (by rw [hnd]; rfl)
          · rw [hr, Oper.upon_enter]
            refine hc.mono ?_
            rintro e w' ⟨v, σ', nm', rfl, rfl, hV, hJ', hst⟩
            exact next v σ' nm' hV hJ' hst _ rfl
        · rw [hwant, if_neg (by simp)]
          exact next undef σ nm hV hJ' (fun _ _ => rfl) _ rfl
      refine ⟨fun hemp => ?_, step⟩
      exfalso
      obtain ⟨m, ⟨hm1, hm2⟩, hmin⟩ := exists_least (p := fun i => i < n ∧ listed.getD i false = false) hexists
      obtain ⟨o, ho⟩ : ∃ o, ops[m]? = some o := by
        rw [Array.getElem?_eq_getElem (by omega)]; exact ⟨_, rfl⟩
      have hms : m < listed.size := by rw [inv.size]; omega
      have : m ∈ Region.ready .any ops listed := by
        refine mem_ready.2 ⟨?_, o, ho, fun e he hb => ?_⟩
        · simp only [Array.getD, hms, dif_pos] at hm2 ⊢; exact hm2
        · have hlt := hback m o hm1 ho e (by simpa using he) hb
          cases hx : listed.getD e.on false with
          | true => rfl
          | false =>
            have := hmin e.on ⟨by omega, hx⟩
            omega
      rw [hemp] at this; cases this

/-! ## What the walk says of each operation -/
def AllOps (F : Nat → Oper → Prop) : Nat → Nat → List Oper → Prop
  | 0, _, _ => True
  | _ + 1, _, [] => True
  | n + 1, k, o :: r => F k o ∧ AllOps F n (k + 1) r
theorem all_nil {F : Nat → Oper → Prop} {k : Nat} {l : List Oper} : AllOps F 0 k l := trivial
theorem all_cons {F : Nat → Oper → Prop} {n k : Nat} {o : Oper} {r : List Oper} (h : F k o) (t : AllOps F n (k + 1) r) : AllOps F (n + 1) k (o :: r) := ⟨h, t⟩
theorem all_ops {F : Nat → Oper → Prop} : ∀ (n k : Nat) (l : List Oper), AllOps F n k l → ∀ i o, i < n → l[i]? = some o → F (k + i) o
  | 0, _, _, _, _, _, hi, _ => by omega
  | _ + 1, _, [], _, _, _, _, ho => by simp at ho
  | n + 1, k, o :: r, ⟨h, t⟩, i, o', hi, ho => by
    cases i with
    | zero => simp at ho; subst ho; exact h
    | succ i =>
      have := all_ops n (k + 1) r t i o' (by omega) (by simpa using ho)
      rw [show k + (i + 1) = k + 1 + i by omega]; exact this
def AllK (F : Nat → Nat → Prop) : List (Nat × Nat) → Prop
  | [] => True
  | (k, k') :: r => F k k' ∧ AllK F r
theorem allK {F : Nat → Nat → Prop} : ∀ {l : List (Nat × Nat)}, AllK F l → ∀ k k', (k, k') ∈ l → F k k'
  | [], _, _, _, h => by cases h
  | (a, b) :: r, ⟨h, t⟩, k, k', hm => by
    rcases List.mem_cons.1 hm with e | hm
    · cases e; exact h
    · exact allK t k k' hm
def AtL (l : List (List (Nat × Nat))) (i : Nat) : List (Nat × Nat) := l.getD i []
def Jl (l : List (Nm → St → Prop)) (k : Nat) (nm : Nm) (σ : St) : Prop := (l.getD k (fun _ _ => False)) nm σ
def Vl (l : List (Nm → Value)) (i : Nat) (nm : Nm) : Value := (l.getD i (fun _ => undef)) nm
def offB (ops : Array Oper) (n t : Nat) : Bool := (List.range n).all fun i => !(dstOf ops i == some t)
theorem off_of {t : Nat} (h : offB ops n t = true) : ∀ i, i < n → dstOf ops i ≠ some t := by
  intro i hi
  have := List.all_eq_true.1 h i (List.mem_range.2 hi)
  simpa using this
def Ob (P : Program) (ops : Array Oper) (N n : Nat) (ρ0 : Nat → Value) (J : Nat → Nm → St → Prop) (V : Nat → Nm → Value) (i : Nat) (o : Oper) (k k' : Nat) : Prop :=
  ∀ nm ρ σ, J k nm σ → (∀ t, offB ops n t = true → ρ t = ρ0 t) → (∀ j, waits o j = true → Nat.blt j n = true → ∀ d, dstOf ops j = some d → look N ρ d = V j nm) → DoesP P ops N n J V ρ σ nm i o k'

theorem rg2e {id : Nat} {l : List Oper} {σ : St} (n : Nat) (E : List Nat) (Ps : List (List Bool)) (Al : List (List (Nat × Nat))) (kend : Nat) (Js : List (Nm → St → Prop)) (Vs : List (Nm → Value)) (nm0 : Nm)
    (hm : P.follows .mixedOrders = true) (hB : rgB N l.toArray n E Ps Al kend = true) (h0 : ∀ σ1, σ1.w.heap = σ.w.heap → Md (cov []) σ σ1 → Jl Js 0 nm0 σ1)
    (hop : AllOps (fun i o => AllK (Ob P l.toArray N n ρ0 (Jl Js) (Vl Vs) i o) (AtL Al i)) n 0 l)
    (hk : ∀ nm ρ σ', Jl Js kend nm σ' → (∀ t, offB l.toArray n t = true → ρ t = ρ0 t) → (∀ i, Nat.blt i n = true → ∀ d, dstOf l.toArray i = some d → look N ρ d = Vl Vs i nm) →
      wpList P l.toArray Q (l.drop n) (fr N ρ) σ'.w) : (Code.region id l.toArray true).wp P Q (fr N ρ0) σ.w := by
  refine wp_region_any hm ?_
  let σ1 : St := ⟨{ σ.w with drawn := σ.w.drawn + 1 }, σ.vis, σ.ok, σ.loud⟩
  have m1 : Md (cov []) σ σ1 := ⟨rfl, rfl, rfl, .inr (Nat.le_succ _), rfl, ⟨Nat.le_refl _, fun _ _ => rfl, fun _ => Nat.le_refl _⟩, fun _ _ _ => rfl, fun _ _ _ => rfl⟩
  have hB' := hB
  simp only [rgB, Bool.and_eq_true] at hB'
  obtain ⟨⟨⟨⟨⟨⟨⟨hn, _⟩, _⟩, _⟩, hst⟩, _⟩, _⟩, _⟩ := hB'
  have hnl : n ≤ l.length := by simpa using Nat.le_of_ble_eq_true hn
  have hb : ∀ j, Nat.blt j n = true → j < n := fun j h => Classical.byContradiction fun hc => by rw [blt_f hc] at h; cases h
  refine wpAny_rg (ρ0 := ρ0) (J := Jl Js) (V := Vl Vs) hB ?_ ?_ _ _ ρ0 σ1 ⟨by simp, fun _ _ => rfl, ⟨nm0, 0, ?_, h0 σ1 rfl m1, fun i _ h => (by rw [getD_replicate_false] at h; exact absurd h (by decide))⟩, fun i _ => getD_replicate_false _ _, fun i _ h => (by rw [getD_replicate_false] at h; exact absurd h (by decide))⟩ ?_
  · intro i o k k' hi ho hmem nm ρ σ' hJ hoff hdep
    have := allK (all_ops n 0 l hop i o hi (by simpa using ho)) k k' (by rw [Nat.zero_add]; exact hmem)
    rw [Nat.zero_add] at this
    exact this nm ρ σ' hJ (fun t ht => hoff t (off_of ht)) (fun j hj hjn d hd => hdep j hj (hb j hjn) d hd)
  · intro nm ρ σ' hJ hoff hrel
    simpa using hk nm ρ σ' hJ (fun t ht => hoff t (off_of ht)) (fun i hi d hd => hrel i (hb i hi) d hd)
  · rw [ph_empty]
    have : Ps.getD 0 [true] = E.map fun _ => false := by simpa using hst
    cases Ps with
    | nil =>
      cases E with
      | nil => simp at this
      | cons e E => simp at this
    | cons p Ps => simpa using this
  · have : (List.range n).countP (fun i => !(Array.replicate l.toArray.size false).getD i false) = n := by
      rw [List.countP_eq_length.2]
      · simp
      · intro i _; rw [getD_replicate_false]; rfl
    rw [this]
    simp; omega

theorem rg2 {id : Nat} {l : List Oper} {σ : St} (n : Nat) (E : List Nat) (Ps : List (List Bool)) (Al : List (List (Nat × Nat))) (kend : Nat) (Js : List (Nm → St → Prop)) (Vs : List (Nm → Value)) (nm0 : Nm)
    (hm : P.follows .mixedOrders = true) (hB : rgB N l.toArray n E Ps Al kend = true) (h0 : ∀ σ1, Md (cov []) σ σ1 → Jl Js 0 nm0 σ1)
    (hop : AllOps (fun i o => AllK (Ob P l.toArray N n ρ0 (Jl Js) (Vl Vs) i o) (AtL Al i)) n 0 l)
    (hk : ∀ nm ρ σ', Jl Js kend nm σ' → (∀ t, offB l.toArray n t = true → ρ t = ρ0 t) → (∀ i, Nat.blt i n = true → ∀ d, dstOf l.toArray i = some d → look N ρ d = Vl Vs i nm) →
      wpList P l.toArray Q (l.drop n) (fr N ρ) σ'.w) : (Code.region id l.toArray true).wp P Q (fr N ρ0) σ.w := rg2e n E Ps Al kend Js Vs nm0 hm hB (fun σ1 _ m => h0 σ1 m) hop hk

/-! ## How the operations of such a region are walked -/
variable {ρ : Nat → Value} {σ : St} {nm nm' : Nm} {i k k' : Nat} {o : Oper} {v : Value} {d : Nat} {op : Op} {ty : TypeId} {pos : String} {af : Array Edge} {gd : Option (Nat × Bool)}
theorem look_off {t : Nat} (h : ρ t = ρ0 t) (hv : look N ρ0 t = v) : look N ρ t = v := by
  rw [← hv]; unfold look; rw [h]
theorem yv_undef {j d : Nat} (hd : dstOf ops j = some d) (h : look N ρ d = undef) : yv ops N ρ j = none := by
  unfold yv
  rw [show (ops[j]?).bind (·.dst) = some d from hd]
  simp only [h]; rfl
theorem yv_of {j d : Nat} {b : Bool} (hd : dstOf ops j = some d) (h : look N ρ d = B b) : yv ops N ρ j = some b := by
  unfold yv
  rw [show (ops[j]?).bind (·.dst) = some d from hd]
  simp only [h]
theorem dp_v (hw : Region.wanted o (yv ops N ρ) = true) (hr : RunV P σ.w.heap N ρ o v) (hV : V i nm = v) (hJ : J k nm σ) : DoesP P ops N n J V ρ σ nm i o k :=
  .inl ⟨hw, .inl ⟨v, σ, nm, hr σ.w rfl, hV, hJ, fun _ _ => rfl⟩⟩
theorem dp_skip (hw : Region.wanted o (yv ops N ρ) = false) (hV : V i nm = undef) (hJ : J k nm σ) : DoesP P ops N n J V ρ σ nm i o k := .inr ⟨hw, hV, hJ⟩
theorem dp_ex {Rz : Value → St → Prop} (hw : Region.wanted o (yv ops N ρ) = true) (he : Ex P σ N ρ o Rz) (h : ∀ v σ', Rz v σ' → ∃ σ'' nm', σ''.w = σ'.w ∧ V i nm' = v ∧ J k' nm' σ'' ∧ ∀ j, befB ops n i j = true → V j nm' = V j nm) : DoesP P ops N n J V ρ σ nm i o k' := by
  obtain ⟨v, σ', hr, hz⟩ := he
  obtain ⟨σ'', nm', hw2, h1, h2, h3⟩ := h v σ' hz
  refine .inl ⟨hw, .inl ⟨v, σ'', nm', ?_, h1, h2, h3⟩⟩
  rw [hw2]; exact hr
theorem dp_exS {Rs : St → Prop} (hw : Region.wanted o (yv ops N ρ) = true) (hd : o.dst = none) (he : ExS P σ N ρ o Rs) (h : ∀ σ', Rs σ' → ∃ σ'' nm', σ''.w = σ'.w ∧ J k' nm' σ'' ∧ ∀ j, befB ops n i j = true → V j nm' = V j nm) : DoesP P ops N n J V ρ σ nm i o k' := by
  obtain ⟨σ', hr, hz⟩ := he
  obtain ⟨σ'', nm', hw2, h2, h3⟩ := h σ' hz
  refine .inl ⟨hw, .inr (.inl ⟨σ'', nm', hd, ?_, h2, h3⟩)⟩
  rw [hw2]; exact hr
theorem dp_cx {Rz : Value → St → Prop} (hw : Region.wanted o (yv ops N ρ) = true) (he : Cx P σ N ρ o Rz) (h : ∀ v σ', Rz v σ' → ∃ σ'' nm', σ''.w = σ'.w ∧ V i nm' = v ∧ J k' nm' σ'' ∧ ∀ j, befB ops n i j = true → V j nm' = V j nm) : DoesP P ops N n J V ρ σ nm i o k' := by
  obtain ⟨f, args, hr, hc⟩ := he
  refine .inl ⟨hw, .inr (.inr ⟨f, args, hr, hc.mono ?_⟩)⟩
  rintro e w' ⟨v, σ', rfl, rfl, hz⟩
  obtain ⟨σ'', nm', hw2, h1, h2, h3⟩ := h v σ' hz
  exact ⟨v, σ'', nm', rfl, hw2.symm, h1, h2, h3⟩
theorem obs_v {i : Nat} {o : Oper} {l : List (Nat × Nat)} (hl : (l.all fun p => Nat.beq p.1 p.2) = true)
    (h : ∀ k nm ρ σ, J k nm σ → (∀ t, offB ops n t = true → ρ t = ρ0 t) → (∀ j, waits o j = true → Nat.blt j n = true → ∀ d, dstOf ops j = some d → look N ρ d = V j nm) → DoesP P ops N n J V ρ σ nm i o k) :
    AllK (Ob P ops N n ρ0 J V i o) l := by
  induction l with
  | nil => trivial
  | cons p r ih =>
    obtain ⟨a, b⟩ := p
    simp only [List.all_cons, Bool.and_eq_true] at hl
    have := Nat.eq_of_beq_eq_true hl.1
    subst this
    exact ⟨fun nm ρ σ hJ hoff hdep => h a nm ρ σ hJ hoff hdep, ih hl.2⟩
theorem ac {m k : Nat} {o : Oper} {r : List Oper} {Al : List (List (Nat × Nat))} (hl : ((AtL Al k).all fun p => Nat.beq p.1 p.2) = true)
    (h : ∀ k' nm ρ σ, J k' nm σ → (∀ t, offB ops n t = true → ρ t = ρ0 t) → (∀ j, waits o j = true → Nat.blt j n = true → ∀ d, dstOf ops j = some d → look N ρ d = V j nm) → DoesP P ops N n J V ρ σ nm k o k')
    (t : AllOps (fun i o => AllK (Ob P ops N n ρ0 J V i o) (AtL Al i)) m (k + 1) r) : AllOps (fun i o => AllK (Ob P ops N n ρ0 J V i o) (AtL Al i)) (m + 1) k (o :: r) := all_cons (obs_v hl h) t
theorem wn {d : Option Nat} {op : Op} {ty : TypeId} {pos : String} {af : Array Edge} {y : Nat → Option Bool} : Region.wanted ⟨d, op, ty, pos, af, none⟩ y = true := wanted_none _ rfl _
def AllJ (F : Nat → Prop) : List Nat → Prop
  | [] => True
  | j :: r => F j ∧ AllJ F r
theorem allJ {F : Nat → Prop} : ∀ {l : List Nat}, AllJ F l → ∀ j ∈ l, F j
  | [], _, _, h => by cases h
  | a :: r, ⟨h, t⟩, j, hm => by
    rcases List.mem_cons.1 hm with e | hm
    · cases e; exact h
    · exact allJ t j hm
theorem stab (l : List Nat) (hb : ((List.range n).all fun j => !befB ops n i j || l.contains j) = true) (h : AllJ (fun j => V j nm' = V j nm) l) : ∀ j, befB ops n i j = true → V j nm' = V j nm := by
  intro j hj
  have hjn : j < n := by
    simp only [befB, Bool.and_eq_true] at hj
    exact Classical.byContradiction fun hc => by rw [blt_f hc] at hj; cases hj.1.1
  have := List.all_eq_true.1 hb j (List.mem_range.2 hjn)
  rw [hj] at this
  simp only [Bool.not_true, Bool.false_or, List.contains_iff_mem] at this
  exact allJ h j this
end

theorem fr_look {N : Nat} {ρ : Nat → Value} {L : List (Nat × Value)} (h : ∀ p ∈ L, look N ρ p.1 = p.2) : fr N ρ = fr N (updL ρ L) := by
  refine fr_ext fun t ht => ?_
  induction L with
  | nil => rfl
  | cons p r ih =>
    have h1 := h p (by simp)
    rw [updL]
    by_cases e : t = p.1
    · subst e; rw [beq_t, ← h1, look_lt _ ht]; rfl
    · rw [beq_f e]; exact ih (fun q hq => h q (by simp [hq]))
def agreeL (N : Nat) (ρ : Nat → Value) : List (Nat × Value) → Prop
  | [] => True
  | (d, v) :: r => look N ρ d = v ∧ agreeL N ρ r
theorem fr_lookL {N : Nat} {ρ : Nat → Value} {L : List (Nat × Value)} (h : agreeL N ρ L) : fr N ρ = fr N (updL ρ L) := by
  refine fr_look ?_
  induction L with
  | nil => intro p hp; simp at hp
  | cons q r ih =>
    intro p hp
    rcases List.mem_cons.1 hp with rfl | hp
    · exact h.1
    · exact ih h.2 p hp

/-! ## Cells in the states between -/
theorem Md.comp0 {S : BS} {a b c : St} (h : Md S a b) (k : Md (cov []) b c) : Md S a c := h.step k (fun _ _ h => h.elim)
theorem Md.comp {S S' : BS} {a b c : St} (h : Md S a b) (k : Md S' b c) : Md (fun i => S i ∨ S' i) a c := (h.mono fun _ h => .inl h).step k (fun _ _ h => .inr h)
theorem Md.hcell {S : BS} {σ σ' : St} {b o : Nat} {u : Value} (m : Md S σ σ') (h : HCell σ.w.heap b o = some u) (hn : ¬ S b) : HCell σ'.w.heap b o = some u := by
  have hb : b < σ.size := by
    refine Classical.byContradiction fun hc => ?_
    unfold HCell at h
    rw [Array.getElem?_eq_none (Nat.le_of_not_lt hc)] at h; cases h
  have := m.block b hb hn
  unfold HCell at h ⊢
  rw [this]; exact h
theorem RS.hmd {el : Nat} {α : Type} [Rp α] {σ σ' : St} {S : BS} {v u : Value} {xs : List α} {a : Int} {e : α} {b o : Nat} (h : RS el σ v xs) (hg : gidx xs a = some e) (hi : Ix v a (Rp.sz α) b o) {k : Nat} (hk : k < Rp.sz α)
    (hc : HCell σ.w.heap b (o + k) = some u) (m : Md S σ σ') : HCell σ'.w.heap b (o + k) = some u := by
  obtain ⟨h0, h1, h2⟩ := gidx_some hg
  obtain ⟨ob, mm, c, rfl, g0, g1, rfl⟩ := hi.it
  rcases h with ⟨_, rfl⟩ | ⟨b, o, c, hv, _, hcap, hvis, hA⟩
  · simp at h1
  · cases hv
    have : (a.toNat + 1) * Rp.sz α ≤ xs.length * Rp.sz α := Nat.mul_le_mul_right _ h1
    rw [Nat.add_mul] at this
    rw [HCell_eq] at hc ⊢
    rw [← hc]
    exact m.ext.cell b _ (by omega)
theorem RS.arr_md {el : Nat} {σ σ' : St} {S : BS} {b o c : Nat} {zs : List Int} (h : RS el σ (Sl (some ⟨b, o, none⟩) zs c) zs) (hc : ∀ j, (hj : j < zs.length) → HCell σ.w.heap b (o + j) = some (I zs[j])) (m : Md S σ σ') :
    ∀ j, (hj : j < zs.length) → HCell σ'.w.heap b (o + j) = some (I zs[j]) := by
  intro j hj
  rcases h with ⟨_, rfl⟩ | ⟨b, o, c, hv, _, hcap, hvis, hA⟩
  · simp at hj
  · cases hv
    rw [← hc j hj, HCell_eq, HCell_eq]
    exact m.ext.cell b _ (by have : Rp.sz Int = 1 := rfl; rw [this] at hvis; omega)
theorem Ix.blk {v : Value} {a : Int} {s b o : Nat} (h : Ix v a s b o) : Go.Vs.blk v = some b := by
  obtain ⟨ob, m, c, rfl, _⟩ := h.it
  rfl
end Go.Vs

namespace Go.Vs
open Go

section
variable {P : Program} {H : Array Obj} {n : Nat} {ρ : Nat → Value} {d : Option Nat} {ty T : TypeId} {pos : String} {af : Array Edge} {gd : Option (Nat × Bool)}
theorem rv_build {fs : Array Field} {parts : Array (Nat × Operand)} {ps : List (Nat × Value)} {cs : Array Value} {z : Value} {s bt : Nat} {places : Array (Nat × Nat)} (hT : P.underlying T = some (.struct fs)) (hi : TI P T z s bt)
    (hpl : ∀ w, (fs.mapM (fun f => do pure (f.offset, ← sizeOf f.type)) : Sem (Array (Nat × Nat))).run P w = .ok places w) (hp : parts.toList.map (fun p => (p.1, ev n ρ p.2)) = ps)
    (hfill : Instr.fill (places[·]?) z.cells ps = some cs) : RunV P H n ρ ⟨d, .build T parts, ty, pos, af, gd⟩ (.agg cs) := fun w _ => by
  have hpp : (parts.map fun (i, x) => (i, ev n ρ x)) = ps.toArray := by rw [← hp, ← Array.toList_map]
  simp only [execOp, hpp, Instr.build, underlying, hT, run_zero hi, Sem.run_bind, run_program, Result.andThen_ok, Sem.run_pure, hpl, hfill]
theorem rv_idx {E m : Nat} {xs : List Int} {x y : Operand} {a e : Int} {z : Value} {bt : Nat} (hT : P.underlying T = some (.array m E)) (hi : TI P E z 1 bt) (hE : P.underlying E = some (.int .i64))
    (hx : ev n ρ x = .agg (xs.map I).toArray) (hy : ev n ρ y = I a) (hg : gidx xs a = some e) (hl : xs.length = m) : RunV P H n ρ ⟨d, .index T x y, ty, pos, af, gd⟩ (I e) := by
  obtain ⟨h0, h1, h2⟩ := gidx_some hg
  exact rv_index_arr hT hi hE hx hy h0 (by omega) (by rw [List.getElem?_eq_getElem h1, h2])
end

theorem sl_len {α β : Type} {a : Option Addr} {xs : List α} {ys : List β} {c : Nat} (h : xs.length = ys.length) : Sl a xs c = Sl a ys c := by unfold Sl; rw [h]
section
variable {P : Program} {n : Nat} {ρ : Nat → Value} {σ : St}
theorem run_cellRes {T : TypeId} {D : TypeDesc} {cs : List Value} {z : Value} {s bt b : Nat} (hT : P.underlying T = some D) (hD : (match D with | .struct _ => false | .array _ _ => false | _ => true) = false)
    (hi : TI P T z s bt) (hlen : cs.length = s) (hB : ∀ j, (hj : j < cs.length) → HCell σ.w.heap b (0 + j) = some cs[j]) : (loadVar T ⟨b, 0, none⟩).run P σ.w = .ok (.agg cs.toArray) σ.w := by
  have hag : (isAgg T).run P σ.w = .ok true σ.w := by
    simp only [isAgg, underlying, Sem.run_bind, run_program, Result.andThen_ok, hT, Sem.run_pure]
    cases D <;> simp_all
  have hld := run_loadCellsFrom (P := P) σ.w b 0 s 0 cs [] hlen (fun j hj => by rw [← HCell_eq]; simpa using hB j hj)
  simp [loadVar, hag, run_typeInfo hi, loadCells, hld]
def ResOk (P : Program) (n : Nat) (ρ : Nat → Value) (w : World) : List ResultVar → List Value → Prop
  | [], [] => True
  | .tmp t :: r, v :: vs => look n ρ t = v ∧ ResOk P n ρ w r vs
  | .cell t T :: r, v :: vs => (∃ a, look n ρ t = .pointer (some a) ∧ (loadVar T a).run P w = .ok v w) ∧ ResOk P n ρ w r vs
  | _, _ => False
theorem res_nil {w : World} : ResOk P n ρ w [] [] := trivial
theorem res_tmp {w : World} {t : Nat} {r : List ResultVar} {v : Value} {vs : List Value} (h : look n ρ t = v) (k : ResOk P n ρ w r vs) : ResOk P n ρ w (.tmp t :: r) (v :: vs) := ⟨h, k⟩
theorem res_cell {w : World} {t T b : Nat} {r : List ResultVar} {v : Value} {vs : List Value} (h : look n ρ t = pt b 0) (hl : (loadVar T ⟨b, 0, none⟩).run P w = .ok v w) (k : ResOk P n ρ w r vs) : ResOk P n ρ w (.cell t T :: r) (v :: vs) := ⟨⟨_, h, hl⟩, k⟩
def resF (D : Array Value) : ResultVar → Sem Value
  | .tmp t => pure (D.getD t undef)
  | .cell a t => do loadVar t (← asAddr (D.getD a undef))
theorem run_res {w : World} : ∀ (rs : List ResultVar) (vs : List Value), ResOk P n ρ w rs vs → (rs.mapM (resF (fr n ρ).tmps)).run P w = .ok vs w := by
  intro rs
  induction rs with
  | nil => intro vs h; cases vs with
    | nil => rfl
    | cons => exact h.elim
  | cons r rs ih =>
    intro vs h
    cases vs with
    | nil => cases r <;> exact h.elim
    | cons v vs =>
      cases r with
      | tmp t =>
        obtain ⟨h1, h2⟩ := h
        have e : (resF (fr n ρ).tmps (.tmp t)).run P w = .ok v w := by
          simp only [resF, look_eq, h1, Sem.run_pure]
        simp only [List.mapM_cons, Sem.run_bind, e, Result.andThen_ok, ih vs h2, Sem.run_pure]
      | cell t T =>
        obtain ⟨⟨a, h1, hl⟩, h2⟩ := h
        have e : (resF (fr n ρ).tmps (.cell t T)).run P w = .ok v w := by
          simp only [resF, look_eq, h1, asAddr, Sem.run_bind, Sem.run_pure, Result.andThen_ok, hl]
        simp only [List.mapM_cons, Sem.run_bind, e, Result.andThen_ok, ih vs h2, Sem.run_pure]
def resV : List Value → Value
  | [v] => v
  | vs => .tuple vs.toArray
theorem results_ok {fn : Func} {w : World} {rs : List ResultVar} {vs : List Value} {v : Value} (h : fn.results = rs.toArray) (hk : ResOk P n ρ w rs vs) (hv : resV vs = v) : (results fn (fr n ρ).tmps).run P w = .ok v w := by
  have hr := run_res rs vs hk
  have hm : (fn.results.mapM (resF (fr n ρ).tmps)).run P w = .ok vs.toArray w := by
    rw [h, List.mapM_toArray]
    show ((List.mapM (resF (fr n ρ).tmps) rs) >>= fun a => pure (List.toArray a) : Sem (Array Value)).run P w = _
    rw [Sem.run_bind, hr]; rfl
  have hres : results fn (fr n ρ).tmps = (do let vs ← fn.results.mapM (resF (fr n ρ).tmps); pure (if h : vs.size = 1 then vs[0] else .tuple vs)) := by
    unfold results
    congr 1
  rw [hres, Sem.run_bind, hm]
  simp only [Result.andThen_ok, Sem.run_pure]
  rw [← hv]
  match vs with
  | [] => rfl
  | [v] => rfl
  | v :: u :: r => simp [resV]
end
end Go.Vs

namespace Go.Vs
open Go

structure Pb (S : BS) (σ σ' : St) : Prop where
  w : σ'.w = σ.w
  loud : σ'.loud = σ.loud
  vis : ∀ b, ¬ S b → σ'.vis b = σ.vis b
  le : ∀ b, σ.vis b ≤ σ'.vis b
theorem Pb.md {S : BS} {σ σ' : St} (h : Pb S σ σ') : Md S σ σ' :=
  ⟨by rw [h.w], by rw [h.w], by rw [h.w], by rw [h.w]; exact .inr (Nat.le_refl _), h.loud, ⟨by unfold St.size; rw [h.w]; exact Nat.le_refl _, fun b _ => by rw [h.w], h.le⟩, fun b _ _ => by rw [h.w], fun b _ hn => h.vis b hn⟩
theorem Pb.trans {S S' : BS} {a b c : St} (h : Pb S a b) (k : Pb S' b c) : Pb (fun i => S i ∨ S' i) a c :=
  ⟨k.w.trans h.w, k.loud.trans h.loud, fun b hb => (k.vis b (fun e => hb (.inr e))).trans (h.vis b (fun e => hb (.inl e))), fun b => Nat.le_trans (h.le b) (k.le b)⟩
theorem Pb.mono {S S' : BS} {a b : St} (h : Pb S a b) (hs : ∀ i, S i → S' i) : Pb S' a b := ⟨h.w, h.loud, fun b hb => h.vis b (fun e => hb (hs b e)), h.le⟩

def Ch.big (K : List Ch) : Ch where
  dup := false
  fp := cov K
  as σ := allAs σ K ∧ apart K
  hdup h := by cases h
  hlt h := allAs_lt h.1
  hst m hd h := ⟨allAs_md h.1 m hd, h.2⟩

def Lends {α : Type} [Rp α] (K : List Ch) (v : Value) (xs : List α) : Prop := ∀ σ, allAs σ K → apart K → ∃ σ', Pb (cov K) σ σ' ∧ RS 0 σ' v xs

inductive Loan : List Ch → List Ch → List Ch → Prop
  | nil : Loan [] [] []
  | lend {α : Type} [Rp α] {lo el : Nat} {v : Value} {xs : List α} {Ln A B : List Ch} : Loan Ln A B → Loan (Ch.own lo el v xs :: Ln) A (Ch.ro 0 v xs :: B)
  | lendV {α : Type} [Rp α] {lo el : Nat} {v v' : Value} {xs ys : List α} {Ln A B : List Ch} : (∀ σ, Ow σ lo el v xs → Ow σ lo el v' ys ∧ ∀ b, blk v' = some b → blk v = some b) → Loan Ln A B → Loan (Ch.own lo el v xs :: Ln) A (Ch.ro 0 v' ys :: B)
  | lendB {α : Type} [Rp α] {v : Value} {xs : List α} {K Ln A B : List Ch} : Lends K v xs → Loan Ln A B → Loan (Ch.big K :: Ln) A (Ch.ro 0 v xs :: B)
  | same {c : Ch} {Ln A B : List Ch} : Loan Ln A B → Loan Ln (c :: A) (c :: B)
  | again {α : Type} [Rp α] {v : Value} {xs : List α} {k : Nat} {Ln A B : List Ch} : Loan Ln A B → nth B k = some (Ch.ro 0 v xs) → Loan Ln A (Ch.ro 0 v xs :: B)

section
variable {P : Program} {n : Nat} {ρ : Nat → Value} {σ0 σ : St} {S0 : BS} {Ln A B R : List Ch}

theorem Loan.cov (h : Loan Ln A B) : ∀ b, Go.Vs.cov B b ↔ Go.Vs.cov A b := by
  induction h with
  | nil => intro b; exact Iff.rfl
  | lend _ ih => intro b; exact ⟨fun h => h.elim (fun h => h.elim) (ih b).1, fun h => .inr ((ih b).2 h)⟩
  | lendV _ _ ih => intro b; exact ⟨fun h => h.elim (fun h => h.elim) (ih b).1, fun h => .inr ((ih b).2 h)⟩
  | lendB _ _ ih => intro b; exact ⟨fun h => h.elim (fun h => h.elim) (ih b).1, fun h => .inr ((ih b).2 h)⟩
  | same _ ih => intro b; exact or_congr Iff.rfl (ih b)
  | again _ _ ih => intro b; exact ⟨fun h => h.elim (fun h => h.elim) (ih b).1, fun h => .inr ((ih b).2 h)⟩
theorem Loan.apart (h : Loan Ln A B) : Go.Vs.apart A → Go.Vs.apart B := by
  induction h with
  | nil => exact id
  | lend _ ih => exact fun h => ⟨fun _ h => h.elim, ih h⟩
  | lendV _ _ ih => exact fun h => ⟨fun _ h => h.elim, ih h⟩
  | lendB _ _ ih => exact fun h => ⟨fun _ h => h.elim, ih h⟩
  | same h0 ih => exact fun h => ⟨fun b hb hb' => h.1 b hb ((h0.cov b).1 hb'), ih h.2⟩
  | again _ _ ih => exact fun h => ⟨fun _ h => h.elim, ih h⟩

theorem Ow.pb {α : Type} [Rp α] {el lo : Nat} {v : Value} {xs : List α} (h : Ow σ lo el v xs) : ∃ σ', Pb (fun b => blk v = some b) σ σ' ∧ RS 0 σ' v xs := by
  have hl := h.lt
  rcases h with ⟨rfl, rfl⟩ | ⟨b, o, c, C, T, rfl, h2, h3, h4, h5, h6, h7⟩
  · exact ⟨σ, ⟨rfl, rfl, fun _ _ => rfl, fun _ => Nat.le_refl _⟩, RS.nil⟩
  · have hb := hl b rfl
    have hE := St.pub_ext (σ := σ) (e := o + xs.length * Rp.sz α) hb
    refine ⟨σ.pub b (o + xs.length * Rp.sz α) hb, ⟨rfl, rfl, fun i hne => ?_, hE.vis⟩, .inr ⟨b, o, c, rfl, Nat.zero_le _, h4, ?_, fun i hi => ((h7 i hi).low (Nat.zero_le _)).same hE rfl⟩⟩
    · show (if i = b then _ else _) = _
      rw [if_neg (by intro e; subst e; exact hne rfl)]
    · show _ ≤ (if b = b then _ else _)
      rw [if_pos rfl]; omega

theorem Loan.pub (h : Loan Ln A B) : ∀ {σ : St}, allAs σ Ln → Go.Vs.apart Ln → allAs σ A → (∀ b, Go.Vs.cov A b → ¬ Go.Vs.cov Ln b) → ∃ σp, Pb (Go.Vs.cov Ln) σ σp ∧ allAs σp B := by
  induction h with
  | nil => intro σ _ _ _ _; exact ⟨σ, ⟨rfl, rfl, fun _ _ => rfl, fun _ => Nat.le_refl _⟩, trivial⟩
  | @lend α _ lo el v xs Ln A B hl ih =>
    rintro σ ⟨h1, h2⟩ ⟨h3, h4⟩ hA hd
    obtain ⟨σ1, p1, hR⟩ := Ow.pb (h1 : Ow σ lo el v xs)
    obtain ⟨σ2, p2, h5⟩ := ih (allAs_md h2 p1.md (fun b hb hb' => h3 b hb' hb)) h4 (allAs_md hA p1.md (fun b hb hb' => hd b hb (.inl hb'))) (fun b hb hb' => hd b hb (.inr hb'))
    exact ⟨σ2, (p1.trans p2).mono (fun b hb => hb), hR.ext p2.md.ext, h5⟩
  | @lendV α _ lo el v v' xs ys Ln A B hV hl ih =>
    rintro σ ⟨h1, h2⟩ ⟨h3, h4⟩ hA hd
    obtain ⟨hO, hb'⟩ := hV σ h1
    obtain ⟨σ1, p0, hR⟩ := Ow.pb hO
    have p1 := p0.mono (S' := fun b => blk v = some b) hb'
    obtain ⟨σ2, p2, h5⟩ := ih (allAs_md h2 p1.md (fun b hb hb' => h3 b hb' hb)) h4 (allAs_md hA p1.md (fun b hb hb' => hd b hb (.inl hb'))) (fun b hb hb' => hd b hb (.inr hb'))
    exact ⟨σ2, (p1.trans p2).mono (fun b hb => hb), hR.ext p2.md.ext, h5⟩
  | @lendB α _ v xs K Ln A B hK hl ih =>
    rintro σ ⟨h1, h2⟩ ⟨h3, h4⟩ hA hd
    obtain ⟨σ1, p1, hR⟩ := hK σ h1.1 h1.2
    obtain ⟨σ2, p2, h5⟩ := ih (allAs_md h2 p1.md (fun b hb hb' => h3 b hb' hb)) h4 (allAs_md hA p1.md (fun b hb hb' => hd b hb (.inl hb'))) (fun b hb hb' => hd b hb (.inr hb'))
    exact ⟨σ2, (p1.trans p2).mono (fun b hb => hb), hR.ext p2.md.ext, h5⟩
  | @same c Ln A B hl ih =>
    rintro σ h1 h2 ⟨h3, h4⟩ hd
    obtain ⟨σp, p, h5⟩ := ih h1 h2 h4 (fun b hb => hd b (.inr hb))
    exact ⟨σp, p, c.hst p.md (fun b hb => hd b (.inl hb)) h3, h5⟩
  | again hl hk ih =>
    intro σ h1 h2 hA hd
    obtain ⟨σp, p, h5⟩ := ih h1 h2 hA hd
    exact ⟨σp, p, nth_all hk h5, h5⟩

def Ab (m : Nat) (c : Ch) : Prop := ∀ σ σ' : St, σ'.w = σ.w → (∀ b, m ≤ b ∨ c.fp b → σ'.vis b = σ.vis b) → c.as σ → c.as σ'
def AllAb (m : Nat) : List Ch → Prop
  | [] => True
  | c :: l => Ab m c ∧ AllAb m l
theorem extL_of {m el : Nat} {σ σ' : St} (hw : σ'.w = σ.w) (hv : ∀ b, m ≤ b → σ'.vis b = σ.vis b) (h : m ≤ el) : ExtL el σ σ' :=
  ⟨fun b _ _ => by rw [hw], fun b hb => Nat.le_of_eq (hv b (Nat.le_trans h hb)).symm⟩
theorem Ab.own {α : Type} [Rp α] {m lo el : Nat} {v : Value} {xs : List α} (h : m ≤ el) : Ab m (Ch.own lo el v xs) := by
  intro σ σ' hw hv hO
  rcases (hO : Ow σ lo el v xs) with hO | ⟨b, o, c, C, T, rfl, h2, h3, h4, h5, h6, h7⟩
  · exact .inl hO
  · refine .inr ⟨b, o, c, C, T, rfl, h2, by rw [hw]; exact h3, h4, h5, (hv b (.inr rfl)).trans h6, fun i hi => ?_⟩
    obtain ⟨cs, h8, h9⟩ := h7 i hi
    exact ⟨cs, Rp.extL (extL_of hw (fun b hb => hv b (.inl hb)) h) h8, fun j hj => by rw [← h9 j hj]; unfold St.cell; rw [hw]⟩
theorem Ab.ownSc {α : Type} [Rp α] [Sc α] {m lo el : Nat} {v : Value} {xs : List α} : Ab m (Ch.own lo el v xs) := by
  intro σ σ' hw hv hO
  exact (Ab.own (m := m) (el := m) (lo := lo) (v := v) (xs := xs) (Nat.le_refl m) σ σ' hw hv (Ow.sc (hO : Ow σ lo el v xs)) : Ow σ' lo m v xs).sc
theorem Ab.ro {α : Type} [Rp α] {m el : Nat} {v : Value} {xs : List α} (h : m ≤ el) : Ab m (Ch.ro el v xs) := by
  intro σ σ' hw hv hR
  exact RS.extL hR (extL_of hw (fun b hb => hv b (.inl hb)) h)
theorem Ab.bx {m lo b o : Nat} {cs pre suf : List Value} : Ab m (Ch.bx lo b o cs pre suf) := by
  rintro σ σ' hw hv ⟨⟨T, h1, h2⟩, h3⟩
  exact ⟨⟨T, by rw [hw]; exact h1, (hv b (.inr rfl)).trans h2⟩, h3⟩
theorem allAb_as {m : Nat} {σ σ' : St} (hw : σ'.w = σ.w) : ∀ {L : List Ch}, AllAb m L → (∀ b, m ≤ b ∨ Go.Vs.cov L b → σ'.vis b = σ.vis b) → allAs σ L → allAs σ' L
  | [], _, _, _ => trivial
  | c :: l, ⟨h1, h2⟩, hv, ⟨h3, h4⟩ => ⟨h1 σ σ' hw (fun b hb => hv b (hb.imp id .inl)) h3, allAb_as hw h2 (fun b hb => hv b (hb.imp id .inr)) h4⟩

open Classical in
theorem Cal2.lend {f : FuncId} {args : List Value} {post : Nat → Value → List Ch → Prop} (hl : Loan Ln A B) (hc : Cal2 P f args B post) (H : Hp S0 σ0 σ (Ln ++ (A ++ R))) (hab : ∀ m v L', post m v L' → AllAb m L') :
    Calls P f args.toArray σ.w fun e w' => ∃ v σ' L', e = .returned v ∧ w' = σ'.w ∧ post σ.size v L' ∧ Hp S0 σ0 σ' (L' ++ (Ln ++ R)) ∧ Md (cov A) σ σ' := by
  obtain ⟨a1, a23⟩ := allAs_append.1 H.all
  obtain ⟨a2, a3⟩ := allAs_append.1 a23
  obtain ⟨p1, p23, p4⟩ := apart_append.1 H.ap
  obtain ⟨p2, p3, p5⟩ := apart_append.1 p23
  have pA : ∀ b, cov A b → ¬ cov Ln b := fun b hb h => p4 b h (cov_append.2 (.inl hb))
  have pR : ∀ b, cov R b → ¬ cov Ln b := fun b hb h => p4 b h (cov_append.2 (.inr hb))
  obtain ⟨σp, pp, aB⟩ := hl.pub a1 p1 a2 pA
  have hsz : σp.size = σ.size := by unfold St.size; rw [pp.w]
  have Hb : Hp (cov B) σp σp B := Hp.begin aB (hl.apart p2)
  have hr := hc.runs σp σ.size (Nat.le_of_eq hsz.symm) Hb
  rw [pp.w] at hr
  refine hr.mono ?_
  rintro e w' ⟨v, σ2, L', rfl, rfl, hp, H'⟩
  have hcA := hl.cov
  have hle : σ.size ≤ σ2.size := hsz ▸ H'.md.size
  let σ3 : St := ⟨σ2.w, fun c => if cov Ln c then σ.vis c else σ2.vis c, fun b hb => by
    have : ¬ cov Ln b := fun h => absurd (Nat.lt_of_lt_of_le (allAs_lt a1 b h) hle) (Nat.not_lt.2 hb)
    rw [if_neg this]; exact σ2.ok b hb, σ2.loud⟩
  have hv1 : ∀ b, cov Ln b → σ3.vis b = σ.vis b := fun b h => if_pos h
  have hv2 : ∀ b, ¬ cov Ln b → σ3.vis b = σ2.vis b := fun b h => if_neg h
  have m3 : Md (cov A) σ σ3 := by
    refine ⟨?_, ?_, ?_, ?_, H'.md.loud.trans pp.loud, ⟨hle, fun b ho => ?_, fun b => ?_⟩, fun b hb hn => ?_, fun b hb hn => ?_⟩
    · exact H'.md.os.trans (by rw [pp.w])
    · exact H'.md.tape.trans (by rw [pp.w])
    · exact H'.md.output.trans (by rw [pp.w])
    · have := H'.md.dr; rw [pp.w, pp.loud] at this; exact this
    · have h1 : σ2.w.heap[b]? = σp.w.heap[b]? := H'.md.ext.block b (Nat.lt_of_lt_of_le ho (pp.le b))
      show σ2.w.heap[b]? = _
      rw [h1, pp.w]
    · by_cases h : cov Ln b
      · exact Nat.le_of_eq (hv1 b h).symm
      · rw [hv2 b h]; exact Nat.le_trans (pp.le b) (H'.md.ext.vis b)
    · have := H'.md.block b (by rw [hsz]; exact hb) (fun h => hn ((hcA b).1 h))
      rw [pp.w] at this; exact this
    · by_cases h : cov Ln b
      · exact hv1 b h
      · rw [hv2 b h, H'.md.vis b (by rw [hsz]; exact hb) (fun h => hn ((hcA b).1 h)), pp.vis b h]
  have horg : ∀ b, cov L' b → b < σ.size → cov A b := fun b hb hlt => (hcA b).1 (H'.org b hb (by rw [hsz]; exact hlt))
  have aL' : allAs σ3 L' := allAb_as (σ := σ2) (σ' := σ3) rfl (hab _ _ _ hp) (fun b hb => by
    refine hv2 b fun h => ?_
    have hlt := allAs_lt a1 b h
    rcases hb with hb | hb
    · omega
    · exact pA b (horg b hb hlt) h) H'.all
  refine ⟨v, σ3, L', rfl, rfl, hp, ⟨H.md.step m3 (fun i hi h => H.org i (cov_append.2 (.inr (cov_append.2 (.inl h)))) hi), allAs_append.2 ⟨aL', allAs_append.2 ⟨allAs_md a1 m3 (fun b hb h => pA b h hb), allAs_md a3 m3 (fun b hb h => p5 b h hb)⟩⟩,
    apart_append.2 ⟨H'.ap, apart_append.2 ⟨p1, p3, fun b hb h => pR b h hb⟩, fun b hb hb' => ?_⟩, fun b hb hlt => ?_⟩, m3⟩
  · rcases cov_append.1 hb' with h | h
    · exact pA b (horg b hb (allAs_lt a1 b h)) h
    · exact p5 b (horg b hb (allAs_lt a3 b h)) h
  · rcases cov_append.1 hb with hb | hb
    · exact H.org b (cov_append.2 (.inr (cov_append.2 (.inl (horg b hb (Nat.lt_of_lt_of_le hlt H.md.size)))))) hlt
    · rcases cov_append.1 hb with hb | hb
      · exact H.org b (cov_append.2 (.inl hb)) hlt
      · exact H.org b (cov_append.2 (.inr (cov_append.2 (.inr hb)))) hlt

theorem cx_lend {f : FuncId} {args : List Value} {post : Nat → Value → List Ch → Prop} {o : Oper} (hl : Loan Ln A B) (hc : Cal2 P f args B post) (he : Enters P n ρ o f args σ.w) (H : Hp S0 σ0 σ (Ln ++ (A ++ R))) (hab : ∀ m v L', post m v L' → AllAb m L') :
    Cx P σ n ρ o fun v σ' => ∃ L', post σ.size v L' ∧ Hp S0 σ0 σ' (L' ++ (Ln ++ R)) ∧ Md (cov A) σ σ' ∧ σ0.size ≤ σ.size :=
  ⟨f, args, he, (hc.lend hl H hab).mono (by rintro e w' ⟨v, σ', L', rfl, rfl, hp, H', m⟩; exact ⟨v, σ', rfl, rfl, L', hp, H', m, H.size⟩)⟩
end
end Go.Vs

namespace Go.Vs
open Go

section
variable {P : Program} {H : Array Obj} {n : Nat} {ρ : Nat → Value} {dst : Option Nat} {ty T T' E : TypeId} {pos : String} {af : Array Edge} {gd : Option (Nat × Bool)} {x c : Operand} {v u : Value} {D : TypeDesc} {f : FuncId} {w : World} {xs : Array Operand} {Ts : Array TypeId} {args : List Value} {name : String} {b o : Nat}

theorem rv_makeInterface (hT : P.underlying T = some D) (hD : (match D with | .interface _ => false | _ => true) = true) (hx : ev n ρ x = v) : RunV P H n ρ ⟨dst, .makeInterface T x, ty, pos, af, gd⟩ (.iface T v) := fun w _ => by
  cases D <;> simp_all [execOp, Instr.makeInterface, underlying]
theorem rv_typeAssert (hT : P.underlying T' = some D) (hD : (match D with | .interface _ => false | _ => true) = true) (hx : ev n ρ x = .iface T' v) : RunV P H n ρ ⟨dst, .typeAssert x T T' false, ty, pos, af, gd⟩ v := fun w _ => by
  cases D <;> simp_all [execOp, Instr.typeAssert, underlying]
theorem rv_makeFunc {cs : Array Operand} {vs : List Value} (hx : cs.toList.map (ev n ρ) = vs) : RunV P H n ρ ⟨dst, .makeFunc (.func f) #[] cs, ty, pos, af, gd⟩ (.func (.func f) #[] vs.toArray) := fun w _ => by
  have : cs.map (ev n ρ) = vs.toArray := by rw [← hx, ← Array.toList_map]
  simp [execOp, Instr.makeFunc, this]

def mrow (P : Program) (T : TypeId) (name : String) : Option (Array FieldStep × Option (FuncId × Bool)) := (P.info? T).bind fun i => (i.methods.find? (·.name == name)).map fun m => (m.path, m.func)

theorem run_method {fuel : Nat} {pr : Bool} {r : Value} (hm : mrow P T name = some (#[], some (f, pr))) (hr : (receiverAt T (.val v) pr (some ((name.splitOn ".").getLastD name))).run P w = .ok r w) : (method (fuel + 1) T v name).run P w = .ok (f, r) w := by
  unfold mrow at hm
  cases hi : P.info? T with
  | none => rw [hi] at hm; cases hm
  | some i =>
    rw [hi] at hm
    simp only [Option.bind_some] at hm
    cases hf : i.methods.find? (·.name == name) with
    | none => rw [hf] at hm; cases hm
    | some m =>
      rw [hf] at hm
      simp only [Option.map_some, Option.some.injEq, Prod.mk.injEq] at hm
      obtain ⟨h1, h2⟩ := hm
      have e1 : (typeInfo T).run P w = .ok i w := by simp [typeInfo, hi]
      have e2 : m.path.toList = [] := by rw [h1]
      have e3 : m.path.isEmpty = true := by rw [h1]; rfl
      simp only [method, Sem.run_bind, e1, Result.andThen_ok, hf, e2, follow, Sem.run_pure, h2, e3, if_true, hr]

theorem enters_i {r : Value} {pr : Bool} (hf : ∃ fn c, P.funcs[f]? = some fn ∧ (fn.name == "runtime.NumGoroutine") = false ∧ fn.body = some c) (hm : mrow P T name = some (#[], some (f, pr))) (hc : ev n ρ c = .iface T v) (hr : (receiverAt T (.val v) pr (some ((name.splitOn ".").getLastD name))).run P w = .ok r w)
    (hx : r :: xs.toList.map (ev n ρ) = args) : Enters P n ρ ⟨dst, .call ⟨.invoke c name, xs, Ts⟩, ty, pos, af, gd⟩ f args w := by
  obtain ⟨fn, cd, h1, h2, h3⟩ := hf
  have hx' : #[r] ++ xs.map (ev n ρ) = args.toArray := by
    rw [← hx]; apply Array.ext'; simp
  have hdp : Made.depth = 100 := rfl
  have hd : ∃ k, P.types.size + Made.depth = k + 1 := ⟨P.types.size + 99, by omega⟩
  obtain ⟨k, hk⟩ := hd
  have hmm := run_method (P := P) (w := w) (fuel := k) hm hr
  have e0 : (#[Value.iface T v] ++ xs.map (ev n ρ))[0]? = some (.iface T v) := by
    rw [Array.getElem?_append_left (by simp)]; rfl
  have e1 : (#[Value.iface T v] ++ xs.map (ev n ρ)).extract 1 (#[Value.iface T v] ++ xs.map (ev n ρ)).size = xs.map (ev n ρ) := by
    apply Array.ext'
    rw [Array.toList_extract, List.extract_eq_drop_take']
    simp only [Array.size_append, Array.size_map, Array.toList_append, Array.toList_map, List.size_toArray, List.length_cons, List.length_nil, List.cons_append, List.nil_append, List.drop_one]
    rw [List.take_of_length_le (by simp; omega)]; rfl
  simp only [Enters, execOp, resolve, hc, Sem.run_bind, Sem.run_pure, Result.andThen_ok, invoke, e0, e1, callMethod, run_program, hk, hmm, callFunc, hx', h1, h2, h3]
  simp

theorem ent_ip (hf : ∃ fn c, P.funcs[f]? = some fn ∧ (fn.name == "runtime.NumGoroutine") = false ∧ fn.body = some c) (hm : mrow P T name = some (#[], some (f, true))) (hT : P.underlying T = some (.pointer E)) (hc : ev n ρ c = .iface T v)
    (hx : v :: xs.toList.map (ev n ρ) = args) : Enters P n ρ ⟨dst, .call ⟨.invoke c name, xs, Ts⟩, ty, pos, af, gd⟩ f args w :=
  enters_i hf hm hc (by simp only [receiverAt, underlying, Sem.run_bind, run_program, Result.andThen_ok, hT, Sem.run_pure, Place.get]) hx
theorem ent_iv (hf : ∃ fn c, P.funcs[f]? = some fn ∧ (fn.name == "runtime.NumGoroutine") = false ∧ fn.body = some c) (hm : mrow P T name = some (#[], some (f, false))) (hT : P.underlying T = some (.pointer E)) (hE : P.underlying E = some D) (hD : (match D with | .struct _ => false | .array _ _ => false | _ => true) = true)
    (hc : ev n ρ c = .iface T (pt b o)) (hl : HCell w.heap b o = some u) (hx : u :: xs.toList.map (ev n ρ) = args) : Enters P n ρ ⟨dst, .call ⟨.invoke c name, xs, Ts⟩, ty, pos, af, gd⟩ f args w := by
  have hag : (isAgg E).run P w = .ok false w := by
    simp only [isAgg, underlying, Sem.run_bind, run_program, Result.andThen_ok, hE, Sem.run_pure]
    cases D <;> simp_all
  rw [HCell_eq] at hl
  have hchk : ∀ s, (Builtin.ssaWrapNilChk_ #[T] T #[pt b o, strVal "", strVal s]).run P w = .ok (pt b o) w := fun _ => rfl
  refine enters_i hf hm hc ?_ hx
  simp [receiverAt, underlying, hT, Place.get, hchk, asAddr, loadVar, hag, load, Sem.run, hl]
end
end Go.Vs

namespace Go.Vs
open Go

def wk (k : IntKind) (n : Int) : Int := k.wrap n
def gshl (k : IntKind) (x n : Int) : Int := k.wrap (x * 2 ^ (min n.toNat k.bits))
def gshr (k : IntKind) (x n : Int) : Int := x.fdiv (2 ^ (min n.toNat k.bits))
def gxork (k : IntKind) (a b : Int) : Int := k.wrap ((BitVec.ofInt k.bits a ^^^ BitVec.ofInt k.bits b).toNat)
def gb8 (n : Int) : UInt8 := (IntKind.u8.wrap n).toNat.toUInt8
theorem gb8_wk (n : Int) : ((gb8 n).toNat : Int) = wk .u8 n := by
  have h : wk .u8 n = n % 256 := by unfold wk IntKind.wrap; simp [IntKind.signed, IntKind.bits]
  have h' : IntKind.u8.wrap n = n % 256 := h
  have h0 : 0 ≤ n % 256 := Int.emod_nonneg n (by decide)
  have h1 : n % 256 < 256 := Int.emod_lt_of_pos n (by decide)
  unfold gb8
  rw [h, h']
  have e : ((n % 256).toNat.toUInt8).toNat = (n % 256).toNat := by
    simp only [Nat.toUInt8, UInt8.toNat_ofNat']
    omega
  rw [e]; omega
section
variable {P : Program} {H : Array Obj} {n : Nat} {ρ : Nat → Value} {dst : Option Nat} {ty T T' : TypeId} {pos : String} {af : Array Edge} {gd : Option (Nat × Bool)} {x y : Operand} {a b q : Int} {k k' : IntKind}
theorem rvk_xor (hx : ev n ρ x = .int k a) (hy : ev n ρ y = .int k b) : RunV P H n ρ ⟨dst, .binOp .xor T x y T', ty, pos, af, gd⟩ (.int k (gxork k a b)) := fun w _ => by
  simp only [execOp, hx, hy, eqGuard, binOp]; simp [Op.intBits, gxork]
theorem rvk_shl (hx : ev n ρ x = .int k a) (hy : ev n ρ y = .int k' b) (hb : ¬ b < 0) : RunV P H n ρ ⟨dst, .binOp .shl T x y T', ty, pos, af, gd⟩ (.int k (gshl k a b)) := fun w _ => by
  simp [execOp, hx, hy, eqGuard, binOp, Op.shift, gshl, hb]
theorem rvk_shr (hx : ev n ρ x = .int k a) (hy : ev n ρ y = .int k' b) (hb : ¬ b < 0) : RunV P H n ρ ⟨dst, .binOp .shr T x y T', ty, pos, af, gd⟩ (.int k (gshr k a b)) := fun w _ => by
  simp [execOp, hx, hy, eqGuard, binOp, Op.shift, gshr, hb]
theorem RunV.b8 {a : Int} {i : Oper} (h : RunV P H n ρ i (.int .u8 (wk .u8 a))) : RunV P H n ρ i (.int .u8 ((gb8 a).toNat : Int)) := by
  rw [gb8_wk]; exact h
theorem gmake_len {α : Type} {k : Int} {z0 : α} {xs : List α} (h : gmake k z0 = some xs) : xs.length = k.toNat := by
  unfold gmake at h; split at h
  · cases h; exact List.length_replicate
  · cases h
theorem rv_nilS {E : TypeId} {m : Nat} {ad : Option Addr} {c : Nat} (hT : P.underlying T = some (.slice E)) (hx : ev n ρ x = .slice ad m c) (hy : ev n ρ y = .slice none 0 0) : RunV P H n ρ ⟨dst, .binOp .eql T x y T', ty, pos, af, gd⟩ (B ad.isNone) := fun w _ => by
  have h : ∀ a : Option Addr, (Op.equal T (.slice a m c) (.slice none 0 0)).run P w = .ok a.isNone w := by
    intro a
    show (Op.equalIn (9999 + 1) T _ _).run P w = _
    rw [Op.equalIn]
    cases a <;> simp only [underlying, Sem.run_bind, run_program, Result.andThen_ok, hT, Sem.run_pure, Option.isNone]
  simp [execOp, hx, hy, eqGuard, binOp, h]

theorem part_int {t j : Nat} {xs : Array Value} {u : Value} (ht : P.underlying t = some (.int .i64)) (w : World) (h : xs[j]? = some u) : (part t xs j).run P w = .ok u w := by
  have hag : (isAgg t).run P w = .ok false w := by
    simp only [isAgg, underlying, Sem.run_bind, run_program, Result.andThen_ok, ht, Sem.run_pure]
  simp [part, hag, h]
def IntFs (P : Program) : Nat → List Field → Prop
  | _, [] => True
  | j, f :: fs => f.offset = j ∧ (f.name ≠ "_") ∧ P.underlying f.type = some (.int .i64) ∧ IntFs P (j + 1) fs
theorem run_eqInts {d : Nat} (w : World) : ∀ (fs : List Field) (j : Nat) (xs ys : List Int), xs.length = ys.length → j + fs.length = xs.length → IntFs P j fs →
    (Op.eqFields (d + 1) (xs.map I).toArray (ys.map I).toArray fs).run P w = .ok (xs.drop j == ys.drop j) w
  | [], j, xs, ys, hl, hj, _ => by
    have e1 : xs.drop j = [] := List.drop_eq_nil_of_le (by simp at hj; omega)
    have e2 : ys.drop j = [] := List.drop_eq_nil_of_le (by simp at hj; omega)
    rw [e1, e2]; rfl
  | f :: fs, j, xs, ys, hl, hj, ⟨h1, h2, h3, h5⟩ => by
    simp only [List.length_cons] at hj
    have ih := run_eqInts (d := d) w fs (j + 1) xs ys hl (by omega) h5
    have hjx : j < xs.length := by omega
    have hjy : j < ys.length := by omega
    have p1 := part_int (P := P) h3 (xs := (xs.map I).toArray) (u := I xs[j]) (j := f.offset) w (by simp [h1, hjx])
    have p2 := part_int (P := P) h3 (xs := (ys.map I).toArray) (u := I ys[j]) (j := f.offset) w (by simp [h1, hjy])
    have p3 : (Op.equalIn (d + 1) f.type (I xs[j]) (I ys[j])).run P w = .ok (xs[j] == ys[j]) w := by
      rw [Op.equalIn]
      simp only [underlying, Sem.run_bind, run_program, Result.andThen_ok, h3, Sem.run_pure, if_true]
    rw [List.drop_eq_getElem_cons hjx, List.drop_eq_getElem_cons hjy, List.cons_beq_cons]
    simp only [Op.eqFields, ne_eq, h2, not_false_eq_true, if_true, Sem.run_bind, p1, p2, p3, Result.andThen_ok]
    cases hb : xs[j] == ys[j] with
    | true => simp only [Bool.not_true, Bool.false_eq_true, if_false, ih, Bool.true_and]
    | false => simp only [Bool.not_false, if_true, Bool.false_and]; rfl
theorem rv_neqI {xs ys : List Int} (hT : P.underlying T = some (.struct (P.fieldsOf T))) (hg : P.eqGuardType P.depth T = false) (hp : P.stoodInHeld T = false) (hl : xs.length = ys.length) (hj : (P.fieldsOf T).toList.length = xs.length) (hf : IntFs P 0 (P.fieldsOf T).toList)
    (hx : ev n ρ x = .agg (xs.map I).toArray) (hy : ev n ρ y = .agg (ys.map I).toArray) : RunV P H n ρ ⟨dst, .binOp .neq T x y T', ty, pos, af, gd⟩ (B (!(xs == ys))) := fun w _ => by
  have e := run_eqInts (P := P) (d := 9998) w (P.fieldsOf T).toList 0 xs ys hl (by omega) hf
  simp only [execOp, hx, hy, Sem.run_bind, run_eqGuard_agg w _ _ _ _ _ _ hg, Result.andThen_ok, run_neq_struct, show (10000 : Nat) = 9999 + 1 from rfl, run_equalIn_agg w 9999 T _ _ hT hp, show (9999 : Nat) = 9998 + 1 from rfl, e, List.drop_zero, Sem.run_pure]
end
section
variable {S0 : BS} {σ0 σ : St} {L : List Ch} {lo b o i : Nat} {pre suf : List Value}
theorem RS.nilOf {α : Type} [Rp α] {el : Nat} {ad : Option Addr} {c : Nat} {xs : List α} (hn : ad.isNone = true) (h : RS el σ (Sl ad xs c) xs) : xs = [] := by
  rcases h with ⟨_, h⟩ | ⟨b, o, c, hv, _⟩
  · exact h
  · cases hv; cases hn
theorem plain_ints (xs : List Int) : ∀ u ∈ List.map I xs, plain u = true := by
  intro u hu
  obtain ⟨x, _, rfl⟩ := List.mem_map.1 hu
  rfl
theorem arr_set' (xs : List Int) (k : Nat) (v : Int) : wrL (xs.map I) (k * 1) [I v] = (xs.set k v).map I := by
  have := arr_set xs k v
  rw [Nat.zero_add] at this; exact this
theorem Hp.arrCell {xs : List Int} {a x : Int} (H : Hp S0 σ0 σ L) (i : Nat) (h : nth L i = some (Ch.bx lo b o (xs.map I) pre suf)) (hx : gidx xs a = some x) : HCell σ.w.heap b (o + a.toNat * 1) = some (I x) := by
  obtain ⟨h0, h1, h2⟩ := gidx_some hx
  rw [Nat.mul_one]
  exact bx_at (H.bx i h) (by simp [h1, h2])
end
end Go.Vs

namespace Go.Vs
open Go

section
variable {P : Program} {n : Nat} {ρ : Nat → Value} {σ0 σ : St} {S0 : BS} {L R : List Ch} {u v : Value} {T T' E E' ty : TypeId} {pos : String} {af : Array Edge} {gd : Option (Nat × Bool)} {dst : Option Nat} {x y q : Operand} {a l h k m : Int} {lo el bt s c c' : Nat} {z : Value}
variable {α : Type} [Rp α] {xs ys p r : List α} {ad ad' : Option Addr} {H : Array Obj}

theorem Ow.view (hO : Ow σ lo el (Sl ad xs c) xs) (hg : gslice xs l h = some p) (hs : Slc ad xs.length c (Rp.sz α) l h ad' p.length c') : Ow σ lo el (Sl ad' p c') p ∧ ∀ b, blk (Sl ad' p c') = some b → blk (Sl ad xs c) = some b := by
  obtain ⟨ad2, c2, hs2, h1, h2⟩ := hO.slice hg
  have e1 : ad' = ad2 := hs.ea.trans hs2.ea.symm
  have e2 : c' = c2 := hs.ec.trans hs2.ec.symm
  subst e1 e2
  exact ⟨h1, h2⟩

theorem Rd.first (hS : Rd el σ u ys) (k : Nat) (hk : k ≤ ys.length) : ∃ K : List Value, K.length = k * Rp.sz α ∧ (∀ i, (hi : i < k) → ∃ cs, Rp.rp el σ cs (ys[i]'(by omega)) ∧ ∀ j, (hj : j < cs.length) → K[i * Rp.sz α + j]? = some cs[j]) ∧ (∀ t ∈ K, Go.Vs.plain t = true) ∧ (Builtin.firstCells (Rp.sz α) k u).run P σ.w = .ok K.toArray σ.w := by
  obtain ⟨K, h1, h2, h3⟩ := hS.row
  have hle : k * Rp.sz α ≤ ys.length * Rp.sz α := Nat.mul_le_mul_right _ hk
  refine ⟨K.take (k * Rp.sz α), by rw [List.length_take]; omega, fun i hi => ?_, fun t ht => Rd.plain h1 h2 t (List.mem_of_mem_take ht), ?_⟩
  · obtain ⟨cs, h4, h5⟩ := h2 i (by omega)
    refine ⟨cs, h4, fun j hj => ?_⟩
    have hl := Rp.len h4
    have : (i + 1) * Rp.sz α ≤ k * Rp.sz α := Nat.mul_le_mul_right _ hi
    rw [Nat.add_mul] at this
    rw [List.getElem?_take, if_pos (by omega)]
    exact h5 j hj
  · rcases h3 with ⟨⟨ad, c, rfl⟩, rfl⟩ | ⟨b, o, c, rfl, h3⟩
    · have : k = 0 := by simpa using hk
      subst this
      cases ad with
      | none => simp [Builtin.firstCells]
      | some a => simp [Builtin.firstCells, loadCells, loadCellsFrom]
    · have := run_loadCellsFrom (P := P) σ.w b o (k * Rp.sz α) 0 (K.take (k * Rp.sz α)) [] (by rw [List.length_take]; omega) (fun j hj => by
        rw [List.length_take] at hj
        have := h3 j (by omega)
        simp only [Nat.zero_add, List.getElem_take]
        exact this)
      simpa [Builtin.firstCells, loadCells] using this

end
end Go.Vs

namespace Go.Vs
open Go

section
variable {P : Program} {H : Array Obj} {n : Nat} {ρ : Nat → Value} {d : Option Nat} {ty T : TypeId} {pos : String} {af : Array Edge} {gd : Option (Nat × Bool)}
end
end Go.Vs

namespace Go.Vs
open Go Go.ChangeShapes Go.WideShapes Go.ChangeAt Go.RowKit

theorem Md.below {S : BS} {σ σ' : St} (m : Md S σ σ') (hS : ∀ b, ¬ S b) : Below σ.w.heap.size σ.w σ'.w :=
  ⟨m.os, m.tape, m.output, m.size, fun k hk => m.block k hk (hS k)⟩
theorem cov_nil : ∀ b, ¬ cov [] b := fun _ h => h
theorem cov_ro {α : Type} [Rp α] {el : Nat} {v : Value} {xs : List α} {L : List Ch} (h : ∀ b, ¬ cov L b) : ∀ b, ¬ cov (Ch.ro el v xs :: L) b := fun b hb => hb.elim (fun h => h) (h b)
theorem all_ro {α : Type} [Rp α] {el : Nat} {v : Value} {xs : List α} {L : List Ch} {σ : St} (h : RS el σ v xs) (k : allAs σ L) : allAs σ (Ch.ro el v xs :: L) := ⟨h, k⟩
theorem apart_ro {α : Type} [Rp α] {el : Nat} {v : Value} {xs : List α} {L : List Ch} (k : apart L) : apart (Ch.ro el v xs :: L) := ⟨fun _ h => h.elim, k⟩

def bytesOf (zs : List Int) : List UInt8 := zs.map fun n => n.toNat.toUInt8
theorem byte_back {n : Int} (h : (Lit.int .u8 n).wf = true) : ((n.toNat.toUInt8).toNat : Int) = n := by
  have h1 : IntKind.u8.min = 0 := rfl
  have h2 : IntKind.u8.max = 255 := rfl
  simp only [Lit.wf, Bool.and_eq_true, decide_eq_true_eq, h1, h2] at h
  have : n.toNat % 256 = n.toNat := Nat.mod_eq_of_lt (by omega)
  rw [Nat.toUInt8, UInt8.toNat_ofNat', this]
  omega

theorem bytes_in {W : World} {b off len cap : Nat} {zs : List Int} (hb : b < W.heap.size) (hl : len ≤ cap) (hz : zs.length = len)
    (hc : ∀ i, i < zs.length → W.cell? ⟨b, off + i, none⟩ = some (.int .u8 (zs.getD i 0))) (hw : ∀ n ∈ zs, (Lit.int .u8 n).wf = true) :
    ∃ σ : St, σ.w = W ∧ RS 0 σ (Sl (some ⟨b, off, none⟩) (bytesOf zs) cap) (bytesOf zs) := by
  refine ⟨⟨W, fun c => if c = b then off + len else 0, fun c hc' => if_neg (by omega), True⟩, rfl, .inr ⟨b, off, cap, rfl, Nat.zero_le _, by simp [bytesOf]; omega, ?_, fun i hi => ?_⟩⟩
  · show off + (bytesOf zs).length * 1 ≤ (if b = b then off + len else 0)
    rw [if_pos rfl]; simp [bytesOf]; omega
  · have hi' : i < zs.length := by simpa [bytesOf] using hi
    refine ⟨[.int .u8 ((bytesOf zs)[i].toNat)], rfl, fun j hj => ?_⟩
    have hj0 : j = 0 := by simpa using hj
    subst hj0
    have := hc i hi'
    show W.cell? ⟨b, off + i * 1 + 0, none⟩ = _
    rw [Nat.mul_one, Nat.add_zero, this]
    have hm : zs.getD i 0 = zs[i] := by simp [List.getD, hi']
    simp only [hm, bytesOf, List.getElem_map, List.getElem_cons_zero]
    rw [byte_back (hw _ (List.getElem_mem _))]
theorem nil_in (W : World) (a : Option Addr) (c : Nat) : ∃ σ : St, σ.w = W ∧ RS 0 σ (Sl a ([] : List UInt8) c) ([] : List UInt8) := ⟨⟨W, fun _ => 0, fun _ _ => rfl, True⟩, rfl, .inl ⟨⟨a, c, rfl⟩, rfl⟩⟩
end Go.Vs

namespace Go.Vs

structure Lc {α : Type} (cmp : α → α → Int) (xs : List α) : Prop where
  irrefl : ∀ x ∈ xs, ¬ cmp x x < 0
  trans : ∀ x ∈ xs, ∀ y ∈ xs, ∀ z ∈ xs, cmp x y < 0 → cmp y z < 0 → cmp x z < 0
  anti : ∀ x ∈ xs, ∀ y ∈ xs, ¬ cmp x y < 0 → ¬ cmp y x < 0 → x = y
def leC {α : Type} (cmp : α → α → Int) (x y : α) : Bool := !decide (cmp y x < 0)
def sortL {α : Type} (cmp : α → α → Int) (xs : List α) : List α := xs.mergeSort (leC cmp)
theorem sortL_len {α : Type} {cmp : α → α → Int} {xs : List α} : (sortL cmp xs).length = xs.length := List.length_mergeSort _
theorem Lc.asymm {α : Type} {cmp : α → α → Int} {xs : List α} (h : Lc cmp xs) {x y : α} (hx : x ∈ xs) (hy : y ∈ xs) (h1 : cmp x y < 0) : ¬ cmp y x < 0 :=
  fun h2 => h.irrefl x hx (h.trans x hx y hy x hx h1 h2)
theorem Lc.letrans {α : Type} {cmp : α → α → Int} {xs : List α} (h : Lc cmp xs) {x y z : α} (hx : x ∈ xs) (hy : y ∈ xs) (hz : z ∈ xs) (h1 : ¬ cmp y x < 0) (h2 : ¬ cmp z y < 0) : ¬ cmp z x < 0 := by
  intro h3
  by_cases a : cmp x y < 0
  · by_cases b : cmp y z < 0
    · exact h.asymm hx hz (h.trans x hx y hy z hz a b) h3
    · have := h.anti y hy z hz b h2; subst this; exact h1 h3
  · have := h.anti x hx y hy a h1; subst this; exact h2 h3
theorem lc_uniq {α : Type} {cmp : α → α → Int} : ∀ {l r : List α}, Lc cmp l → r.Perm l → r.Pairwise (fun x y => ¬ cmp y x < 0) → l.Pairwise (fun x y => ¬ cmp y x < 0) → r = l
  | [], r, _, hp, _, _ => List.Perm.eq_nil hp
  | x :: l, r, h, hp, hr, hl => by
    cases r with
    | nil => exact absurd hp.length_eq (by simp)
    | cons y r =>
      obtain ⟨hr1, hr2⟩ := List.pairwise_cons.1 hr
      obtain ⟨hl1, hl2⟩ := List.pairwise_cons.1 hl
      have hy : y ∈ x :: l := hp.mem_iff.1 (by simp)
      have hx : x ∈ y :: r := hp.mem_iff.2 (by simp)
      have e : y = x := by
        rcases List.mem_cons.1 hx with e | hx'
        · exact e.symm
        rcases List.mem_cons.1 hy with e | hy'
        · exact e
        exact h.anti y hy x (by simp) (hl1 y hy') (hr1 x hx')
      subst e
      have hp' := (List.perm_cons y).1 hp
      rw [lc_uniq (l := l) (r := r) ⟨fun a ha => h.irrefl a (by simp [ha]), fun a ha b hb c hc => h.trans a (by simp [ha]) b (by simp [hb]) c (by simp [hc]), fun a ha b hb => h.anti a (by simp [ha]) b (by simp [hb])⟩ hp' hr2 hl2]
theorem sortL_asc {α : Type} {cmp : α → α → Int} {xs : List α} (h : Lc cmp xs) : (sortL cmp xs).Pairwise (fun x y => ¬ cmp y x < 0) := by
  -- on the list's own elements the order is total and transitive
  let e : {x // x ∈ xs} → {x // x ∈ xs} → Bool := fun a b => leC cmp a.1 b.1
  have hs := List.pairwise_mergeSort (le := e) (fun a b c h1 h2 => by
    simp only [e, leC, Bool.not_eq_true', decide_eq_false_iff_not] at h1 h2 ⊢
    exact h.letrans a.2 b.2 c.2 h1 h2) (fun a b => by
    simp only [e, leC, Bool.or_eq_true, Bool.not_eq_true', decide_eq_false_iff_not]
    by_cases hb : cmp b.1 a.1 < 0
    · exact .inr (h.asymm b.2 a.2 hb)
    · exact .inl hb) xs.attach
  have hm : sortL cmp xs = (xs.attach.mergeSort e).map (·.1) := by
    unfold sortL
    have := List.map_mergeSort (f := fun a : {x // x ∈ xs} => a.1) (r := e) (s := leC cmp) (l := xs.attach) (fun a _ b _ => rfl)
    rw [this, List.attach_map_subtype_val]
  rw [hm, List.pairwise_map]
  refine hs.imp fun {a b} hab => ?_
  simpa [e, leC] using hab
theorem sortL_uniq {α : Type} {cmp : α → α → Int} {xs r : List α} (h : Lc cmp xs) (hp : r.Perm xs) (hr : r.Pairwise (fun x y => ¬ cmp y x < 0)) : r = sortL cmp xs := by
  have hps : (sortL cmp xs).Perm xs := List.mergeSort_perm _ _
  have hm : ∀ x, x ∈ sortL cmp xs → x ∈ xs := fun x hx => hps.mem_iff.1 hx
  exact lc_uniq ⟨fun a ha => h.irrefl a (hm a ha), fun a ha b hb c hc => h.trans a (hm a ha) b (hm b hb) c (hm c hc), fun a ha b hb => h.anti a (hm a ha) b (hm b hb)⟩ (hp.trans hps.symm) hr (sortL_asc h)
open Classical in
noncomputable def M.sortD {α : Type} (cmp : α → α → Option Int) (xs : List α) : Option (List α) :=
  if xs.length ≤ 1000000 ∧ (∀ x ∈ xs, ∀ y ∈ xs, ∃ r, cmp x y = some r) ∧ Lc (fun x y => (cmp x y).getD 0) xs then some (sortL (fun x y => (cmp x y).getD 0) xs) else none
theorem sortD_some {α : Type} {cmp : α → α → Option Int} {xs r : List α} (h : M.sortD cmp xs = some r) : xs.length ≤ 1000000 ∧ (∀ x ∈ xs, ∀ y ∈ xs, ∃ r, cmp x y = some r) ∧ Lc (fun x y => (cmp x y).getD 0) xs ∧ r = sortL (fun x y => (cmp x y).getD 0) xs := by
  unfold M.sortD at h
  split at h
  · rename_i hc
    exact ⟨hc.1, hc.2.1, hc.2.2, (Option.some.inj h).symm⟩
  · cases h
theorem sortD_ok {α : Type} {cmp : α → α → Option Int} {lt : α → α → Bool} {xs : List α} (hn : xs.length ≤ 1000000) (hc : ∀ x ∈ xs, ∀ y ∈ xs, ∃ r, cmp x y = some r ∧ decide (r < 0) = lt x y)
    (hi : ∀ x ∈ xs, lt x x = false) (ht : ∀ x ∈ xs, ∀ y ∈ xs, ∀ z ∈ xs, lt x y = true → lt y z = true → lt x z = true) (ha : ∀ x ∈ xs, ∀ y ∈ xs, x ≠ y → lt x y = true ∨ lt y x = true) :
    ∃ r, M.sortD cmp xs = some r ∧ r.Perm xs ∧ r.Pairwise (fun x y => lt y x = false) := by
  have hv : ∀ x ∈ xs, ∀ y ∈ xs, (cmp x y).getD 0 < 0 ↔ lt x y = true := by
    intro x hx y hy
    obtain ⟨r, h1, h2⟩ := hc x hx y hy
    rw [h1, ← h2]; simp
  have hL : Lc (fun x y => (cmp x y).getD 0) xs := by
    refine ⟨fun x hx h => ?_, fun x hx y hy z hz h1 h2 => ?_, fun x hx y hy h1 h2 => ?_⟩
    · rw [hv x hx x hx, hi x hx] at h; cases h
    · exact (hv x hx z hz).2 (ht x hx y hy z hz ((hv x hx y hy).1 h1) ((hv y hy z hz).1 h2))
    · refine Classical.byContradiction fun hne => ?_
      rcases ha x hx y hy hne with h | h
      · exact h1 ((hv x hx y hy).2 h)
      · exact h2 ((hv y hy x hx).2 h)
  have hp : (sortL (fun x y => (cmp x y).getD 0) xs).Perm xs := List.mergeSort_perm _ _
  have hsome : ∀ x ∈ xs, ∀ y ∈ xs, ∃ r, cmp x y = some r := fun x hx y hy => by
    obtain ⟨r, h1, _⟩ := hc x hx y hy; exact ⟨r, h1⟩
  refine ⟨_, by unfold M.sortD; rw [if_pos ⟨hn, hsome, hL⟩], hp, ?_⟩
  · have hs := sortL_asc hL
    rw [List.pairwise_iff_getElem] at hs ⊢
    intro i j h1 h2 hij
    have hx := hp.mem_iff.1 (List.getElem_mem h1)
    have hy := hp.mem_iff.1 (List.getElem_mem h2)
    have := hs i j h1 h2 hij
    rw [hv _ hy _ hx] at this
    simpa using this
end Go.Vs
