/- The steps that turn the world, as the walk takes them. -/
import Derived.Test.YtcgkbgidfilodaaVsMem
set_option linter.unusedVariables false
set_option linter.unusedSimpArgs false
namespace Go.Vs
open Go

section
variable {P : Program} {ops : Array Oper} {Q : Exit → Act → World → Prop} {n d : Nat} {ρ : Nat → Value} {σ : St} {v : Value} {rest : List Oper}
variable {ty T T' E : TypeId} {pos : String} {af : Array Edge} {x y : Operand} {a : Int}

/-- One operation that yields v and leaves σ'. -/
def RunW (P : Program) (w : World) (n : Nat) (ρ : Nat → Value) (o : Oper) (v : Value) (w' : World) : Prop := (execOp (ev n ρ) o).run P w = .ok (.value v) w'
def RunS (P : Program) (w : World) (n : Nat) (ρ : Nat → Value) (o : Oper) (w' : World) : Prop := (execOp (ev n ρ) o).run P w = .ok .skip w'

theorem st_w {op : Op} {gd : Option (Nat × Bool)} {w w' : World} (hw : Region.wanted ⟨some d, op, ty, pos, af, gd⟩ (yv ops n ρ) = true) (hr : RunW P w n ρ ⟨some d, op, ty, pos, af, gd⟩ v w')
    (k : wpList P ops Q rest (fr n (upd ρ d v)) w') : wpList P ops Q (⟨some d, op, ty, pos, af, gd⟩ :: rest) (fr n ρ) w := by
  unfold wpList
  rw [yielded_fr, if_pos hw]
  refine .inl ?_
  unfold Oper.wp
  rw [fr_eval, hr]
  simp only [Oper.upon_value, fr_put]
  exact k
theorem st_s {op : Op} {gd : Option (Nat × Bool)} {w w' : World} (hw : Region.wanted ⟨none, op, ty, pos, af, gd⟩ (yv ops n ρ) = true) (hr : RunS P w n ρ ⟨none, op, ty, pos, af, gd⟩ w')
    (k : wpList P ops Q rest (fr n ρ) w') : wpList P ops Q (⟨none, op, ty, pos, af, gd⟩ :: rest) (fr n ρ) w := by
  unfold wpList
  rw [yielded_fr, if_pos hw]
  refine .inl ?_
  unfold Oper.wp
  rw [fr_eval, hr]
  simp only [Oper.upon_skip, fr_put_none]
  exact k

theorem World.alloc_eq (w : World) (o : Obj) : ({ w with heap := w.heap.push o } : World) = World.mk' w o 0 := rfl

/-- A box of a value that came in. -/
theorem st_box {gd : Option (Nat × Bool)} {cs : List Value} (hx : ev n ρ x = v) (hv : v.cells = cs.toArray)
    (k : ∀ (b : Nat) (σ' : St), σ.size = b → Mod none σ σ' → Bx σ' b cs → wpList P ops Q rest (fr n (upd ρ d (pt b 0))) σ'.w) (hw : Region.wanted ⟨some d, .box T x, ty, pos, af, gd⟩ (yv ops n ρ) = true) :
    wpList P ops Q (⟨some d, .box T x, ty, pos, af, gd⟩ :: rest) (fr n ρ) σ.w := by
  refine st_w (w' := (σ.new (.cells cs.toArray T (0, 0)) 0).w) hw ?_ (k σ.size _ rfl (St.new_mod _ _ _) ⟨T, St.new_new _ _ _, St.new_vis _ _ _⟩)
  simp [RunW, execOp, hx, Instr.box, newVar, newRow, newObj, Sem.run, hv, St.new, World.mk']

/-- A new variable. -/
theorem st_alloc {gd : Option (Nat × Bool)} {z : Value} {s bt : Nat} {cs : List Value} (hi : TI P T z s bt) (hv : z.cells = cs.toArray)
    (k : ∀ (b : Nat) (σ' : St), σ.size = b → Mod none σ σ' → Bx σ' b cs → wpList P ops Q rest (fr n (upd ρ d (pt b 0))) σ'.w) (hw : Region.wanted ⟨some d, .alloc T, ty, pos, af, gd⟩ (yv ops n ρ) = true) :
    wpList P ops Q (⟨some d, .alloc T, ty, pos, af, gd⟩ :: rest) (fr n ρ) σ.w := by
  refine st_w (w' := (σ.new (.cells cs.toArray T (0, 0)) 0).w) hw ?_ (k σ.size _ rfl (St.new_mod _ _ _) ⟨T, St.new_new _ _ _, St.new_vis _ _ _⟩)
  simp [RunW, execOp, Instr.alloc, run_zero hi, newVar, newRow, newObj, Sem.run, hv, St.new, World.mk']

/-- What is written where. -/
def wrL (cs : List Value) (k : Nat) : List Value → List Value
  | [] => cs
  | v :: r => wrL (cs.set k v) (k + 1) r
theorem wr_list (vs : List Value) : ∀ (cs : List Value) (k : Nat), wr cs.toArray k vs = (wrL cs k vs).toArray := by
  induction vs with
  | nil => intro cs k; rfl
  | cons v r ih => intro cs k; rw [wr, wrL, ← ih]; simp

/-- A store into a box. -/
theorem st_store_box {cs vs : List Value} {b o : Nat} {z : Value} {s bt : Nat} (hi : TI P T z s bt) (hB : Bx σ b cs) (hx : ev n ρ x = pt b o) (hy : ev n ρ y = v) (hv : v.cells = vs.toArray) (hs : vs.length = s)
    (ho : o + vs.length ≤ cs.length) (hp : ∀ u ∈ vs, plain u = true)
    (k : ∀ σ' : St, Mod (some b) σ σ' → Bx σ' b (wrL cs o vs) → σ'.size = σ.size → wpList P ops Q rest (fr n ρ) σ'.w) :
    wpList P ops Q (⟨none, .store T x y, ty, pos, af, none⟩ :: rest) (fr n ρ) σ.w := by
  obtain ⟨T0, h1, h2⟩ := hB
  have hb := lt_of_block h1
  refine st_s (w' := (σ.put b (.cells (wr cs.toArray o vs) T0 (0, 0))).w) rfl ?_
    (k _ (St.put_mod h2) ⟨T0, by rw [wr_list]; exact World.put_at _ hb, h2⟩ (World.put_size _ _ _))
  have := run_storeCells (P := P) b o T0 vs 0 σ.w cs.toArray h1 (by simpa using ho) hp
  simp only [Nat.add_zero] at this
  simp [RunS, execOp, hx, hy, Instr.storeAt, Instr.sureAddr, storeVar, run_typeInfo hi, hv, hs, this, St.put]

theorem run_call {f : FuncId} {args : List Value} {xs : Array Operand} {Ts : Array TypeId} {dst : Option Nat} {gd : Option (Nat × Bool)} {w : World}
    (hf : ∃ fn c, P.funcs[f]? = some fn ∧ (fn.name == "runtime.NumGoroutine") = false ∧ fn.body = some c) (hx : xs.toList.map (ev n ρ) = args) :
    (execOp (ev n ρ) ⟨dst, .call ⟨.value (.func f), xs, Ts⟩, ty, pos, af, gd⟩).run P w = .ok (.enter f args.toArray) w := by
  obtain ⟨fn, c, h1, h2, h3⟩ := hf
  replace hx : xs.map (ev n ρ) = args.toArray := by rw [← hx, ← Array.toList_map]
  simp only [execOp, resolve, ev, Deferred.ofValue, Sem.run_bind, Sem.run_pure, Result.andThen_ok, invoke, callFunc, run_program, hx, h1, h2, h3]
  simp

end

/-! ## Regions, blocks, loops -/
section
variable {P : Program} {Q : Exit → Act → World → Prop} {n : Nat} {ρ : Nat → Value} {σ : St} {w : World}

theorem rg {id : Nat} {l : List Oper} (h : wpList P l.toArray Q l (fr n ρ) w) : (Code.region id l.toArray false).wp P Q (fr n ρ) w := wp_region_lit h
theorem rg_end {ops : Array Oper} (h : Q .normal (fr n ρ) w) : wpList P ops Q [] (fr n ρ) w := h

theorem seq {x y : Code} (h : x.wp P (Exit.then (y.wp P Q) Q) (fr n ρ) w) : (Code.seq x y).wp P Q (fr n ρ) w := wp_seq h
end
end Go.Vs
