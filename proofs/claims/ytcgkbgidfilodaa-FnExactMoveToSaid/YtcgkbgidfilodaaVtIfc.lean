/- Interfaces: what is put in, what is called, what is asked for. -/
import Derived.Test.YtcgkbgidfilodaaVtLend
set_option linter.unusedVariables false
set_option linter.unusedSimpArgs false
namespace Go.Vs
open Go

section
variable {P : Program} {H : Array Obj} {n : Nat} {ρ : Nat → Value} {dst : Option Nat} {ty T T' E : TypeId} {pos : String} {af : Array Edge} {gd : Option (Nat × Bool)} {x c : Operand} {v u : Value} {D : TypeDesc} {f : FuncId} {w : World} {xs : Array Operand} {Ts : Array TypeId} {args : List Value} {name : String} {b o : Nat}

theorem rv_makeInterface (hT : P.underlying T = some D) (hD : (match D with | .interface _ => false | _ => true) = true) (hx : ev n ρ x = v) : RunV P H n ρ ⟨dst, .makeInterface T x, ty, pos, af, gd⟩ (.iface T v) := fun w _ => by
  cases D <;> simp_all [execOp, Instr.makeInterface, underlying]
theorem rv_typeAssert (hT : P.underlying T' = some D) (hD : (match D with | .interface _ => false | _ => true) = true) (hx : ev n ρ x = .iface T' v) : RunV P H n ρ ⟨dst, .typeAssert x T T' false, ty, pos, af, gd⟩ v := fun w _ => by
  cases D <;> simp_all [execOp, Instr.typeAssert, underlying]
theorem rv_makeFunc {cs : Array Operand} {vs : List Value} (hx : cs.toList.map (ev n ρ) = vs) : RunV P H n ρ ⟨dst, .makeFunc (.func f) #[] cs, ty, pos, af, gd⟩ (.func (.func f) #[] vs.toArray) := fun w _ => by
  have : cs.map (ev n ρ) = vs.toArray := by rw [← hx, ← Array.toList_map]
  simp [execOp, Instr.makeFunc, this]

/-- The row of a type's methods. -/
def mrow (P : Program) (T : TypeId) (name : String) : Option (Array FieldStep × Option (FuncId × Bool)) := (P.info? T).bind fun i => (i.methods.find? (·.name == name)).map fun m => (m.path, m.func)

theorem run_method {fuel : Nat} {pr : Bool} {r : Value} (hm : mrow P T name = some (#[], some (f, pr))) (hr : (receiverAt T (.val v) pr (some ((name.splitOn ".").getLastD name))).run P w = .ok r w) : (method (fuel + 1) T v name).run P w = .ok (f, r) w := by
  unfold mrow at hm
  cases hi : P.info? T with
  | none => rw [hi] at hm; cases hm
  | some i =>
    rw [hi] at hm
    simp only [Option.bind_some] at hm
    cases hf : i.methods.find? (·.name == name) with
    | none => rw [hf] at hm; cases hm
    | some m =>
      rw [hf] at hm
      simp only [Option.map_some, Option.some.injEq, Prod.mk.injEq] at hm
      obtain ⟨h1, h2⟩ := hm
      have e1 : (typeInfo T).run P w = .ok i w := by simp [typeInfo, hi]
      have e2 : m.path.toList = [] := by rw [h1]
      have e3 : m.path.isEmpty = true := by rw [h1]; rfl
      simp only [method, Sem.run_bind, e1, Result.andThen_ok, hf, e2, follow, Sem.run_pure, h2, e3, if_true, hr]

theorem enters_i {r : Value} {pr : Bool} (hf : ∃ fn c, P.funcs[f]? = some fn ∧ (fn.name == "runtime.NumGoroutine") = false ∧ fn.body = some c) (hm : mrow P T name = some (#[], some (f, pr))) (hc : ev n ρ c = .iface T v) (hr : (receiverAt T (.val v) pr (some ((name.splitOn ".").getLastD name))).run P w = .ok r w)
    (hx : r :: xs.toList.map (ev n ρ) = args) : Enters P n ρ ⟨dst, .call ⟨.invoke c name, xs, Ts⟩, ty, pos, af, gd⟩ f args w := by
  obtain ⟨fn, cd, h1, h2, h3⟩ := hf
  have hx' : #[r] ++ xs.map (ev n ρ) = args.toArray := by
    rw [← hx]; apply Array.ext'; simp
  have hdp : Made.depth = 100 := rfl
  have hd : ∃ k, P.types.size + Made.depth = k + 1 := ⟨P.types.size + 99, by omega⟩
  obtain ⟨k, hk⟩ := hd
  have hmm := run_method (P := P) (w := w) (fuel := k) hm hr
  have e0 : (#[Value.iface T v] ++ xs.map (ev n ρ))[0]? = some (.iface T v) := by
    rw [Array.getElem?_append_left (by simp)]; rfl
  have e1 : (#[Value.iface T v] ++ xs.map (ev n ρ)).extract 1 (#[Value.iface T v] ++ xs.map (ev n ρ)).size = xs.map (ev n ρ) := by
    apply Array.ext'
    rw [Array.toList_extract, List.extract_eq_drop_take']
    simp only [Array.size_append, Array.size_map, Array.toList_append, Array.toList_map, List.size_toArray, List.length_cons, List.length_nil, List.cons_append, List.nil_append, List.drop_one]
    rw [List.take_of_length_le (by simp; omega)]; rfl
  simp only [Enters, execOp, resolve, hc, Sem.run_bind, Sem.run_pure, Result.andThen_ok, invoke, e0, e1, callMethod, run_program, hk, hmm, callFunc, hx', h1, h2, h3]
  simp

/-- A method of a pointer. -/
theorem ent_ip (hf : ∃ fn c, P.funcs[f]? = some fn ∧ (fn.name == "runtime.NumGoroutine") = false ∧ fn.body = some c) (hm : mrow P T name = some (#[], some (f, true))) (hT : P.underlying T = some (.pointer E)) (hc : ev n ρ c = .iface T v)
    (hx : v :: xs.toList.map (ev n ρ) = args) : Enters P n ρ ⟨dst, .call ⟨.invoke c name, xs, Ts⟩, ty, pos, af, gd⟩ f args w :=
  enters_i hf hm hc (by simp only [receiverAt, underlying, Sem.run_bind, run_program, Result.andThen_ok, hT, Sem.run_pure, Place.get]) hx
/-- A method of what a pointer leads to: one cell. -/
theorem ent_iv (hf : ∃ fn c, P.funcs[f]? = some fn ∧ (fn.name == "runtime.NumGoroutine") = false ∧ fn.body = some c) (hm : mrow P T name = some (#[], some (f, false))) (hT : P.underlying T = some (.pointer E)) (hE : P.underlying E = some D) (hD : (match D with | .struct _ => false | .array _ _ => false | _ => true) = true)
    (hc : ev n ρ c = .iface T (pt b o)) (hl : HCell w.heap b o = some u) (hx : u :: xs.toList.map (ev n ρ) = args) : Enters P n ρ ⟨dst, .call ⟨.invoke c name, xs, Ts⟩, ty, pos, af, gd⟩ f args w := by
  have hag : (isAgg E).run P w = .ok false w := by
    simp only [isAgg, underlying, Sem.run_bind, run_program, Result.andThen_ok, hE, Sem.run_pure]
    cases D <;> simp_all
  rw [HCell_eq] at hl
  have hchk : ∀ s, (Builtin.ssaWrapNilChk_ #[T] T #[pt b o, strVal "", strVal s]).run P w = .ok (pt b o) w := fun _ => rfl
  refine enters_i hf hm hc ?_ hx
  simp [receiverAt, underlying, hT, Place.get, hchk, asAddr, loadVar, hag, load, Sem.run, hl]
/-- A method of a value that is no pointer. -/
theorem ent_ix (hf : ∃ fn c, P.funcs[f]? = some fn ∧ (fn.name == "runtime.NumGoroutine") = false ∧ fn.body = some c) (hm : mrow P T name = some (#[], some (f, false))) (hT : P.underlying T = some D) (hD : (match D with | .pointer _ => false | _ => true) = true) (hc : ev n ρ c = .iface T v)
    (hx : v :: xs.toList.map (ev n ρ) = args) : Enters P n ρ ⟨dst, .call ⟨.invoke c name, xs, Ts⟩, ty, pos, af, gd⟩ f args w := by
  refine enters_i hf hm hc ?_ hx
  cases D <;> simp_all [receiverAt, underlying, Place.get]
end
end Go.Vs
