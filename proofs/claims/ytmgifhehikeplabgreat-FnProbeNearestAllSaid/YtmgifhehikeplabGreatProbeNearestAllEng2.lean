/- What a function of the program does to its memory, step by step. -/
import Derived.Test.YtmgifhehikeplabGreatProbeNearestAllEng1
import Derived.Laws.StructEq
import Derived.ProofKit
import Derived.SizedLaws
import Derived.RangeFuncLeaves
import Derived.RangeFuncSeq
import Derived.TacticsIn
import Derived.Sort.LoopGhostIn
set_option linter.unusedVariables false
set_option linter.unusedSimpArgs false
namespace Go.Vs
open Go

section
variable {P : Program} {H : Array Obj} {n : Nat} {ρ : Nat → Value} {dst : Option Nat} {ty T T' E : TypeId} {pos : String} {af : Array Edge} {gd : Option (Nat × Bool)} {x c : Operand} {v u : Value} {D : TypeDesc} {f : FuncId} {w : World} {xs : Array Operand} {Ts : Array TypeId} {args : List Value} {name : String} {b o : Nat}

theorem rv_makeInterface (hT : P.underlying T = some D) (hD : (match D with | .interface _ => false | _ => true) = true) (hx : ev n ρ x = v) : RunV P H n ρ ⟨dst, .makeInterface T x, ty, pos, af, gd⟩ (.iface T v) := fun w _ => by
  cases D <;> simp_all [execOp, Instr.makeInterface, underlying]
theorem rv_typeAssert (hT : P.underlying T' = some D) (hD : (match D with | .interface _ => false | _ => true) = true) (hx : ev n ρ x = .iface T' v) : RunV P H n ρ ⟨dst, .typeAssert x T T' false, ty, pos, af, gd⟩ v := fun w _ => by
  cases D <;> simp_all [execOp, Instr.typeAssert, underlying]
theorem rv_makeFunc {cs : Array Operand} {vs : List Value} (hx : cs.toList.map (ev n ρ) = vs) : RunV P H n ρ ⟨dst, .makeFunc (.func f) #[] cs, ty, pos, af, gd⟩ (.func (.func f) #[] vs.toArray) := fun w _ => by
  have : cs.map (ev n ρ) = vs.toArray := by rw [← hx, ← Array.toList_map]
  simp [execOp, Instr.makeFunc, this]

def mrow (P : Program) (T : TypeId) (name : String) : Option (Array FieldStep × Option (FuncId × Bool)) := (P.info? T).bind fun i => (i.methods.find? (·.name == name)).map fun m => (m.path, m.func)

theorem run_method {fuel : Nat} {pr : Bool} {r : Value} (hm : mrow P T name = some (#[], some (f, pr))) (hr : (receiverAt T (.val v) pr (some ((name.splitOn ".").getLastD name))).run P w = .ok r w) : (method (fuel + 1) T v name).run P w = .ok (f, r) w := by
  unfold mrow at hm
  cases hi : P.info? T with
  | none => rw [hi] at hm; cases hm
  | some i =>
    rw [hi] at hm
    simp only [Option.bind_some] at hm
    cases hf : i.methods.find? (·.name == name) with
    | none => rw [hf] at hm; cases hm
    | some m =>
      rw [hf] at hm
      simp only [Option.map_some, Option.some.injEq, Prod.mk.injEq] at hm
      obtain ⟨h1, h2⟩ := hm
      have e1 : (typeInfo T).run P w = .ok i w := by simp [typeInfo, hi]
      have e2 : m.path.toList = [] := by rw [h1]
      have e3 : m.path.isEmpty = true := by rw [h1]; rfl
      simp only [method, Sem.run_bind, e1, Result.andThen_ok, hf, e2, follow, Sem.run_pure, h2, e3, if_true, hr]

theorem enters_i {r : Value} {pr : Bool} (hf : ∃ fn c, P.funcs[f]? = some fn ∧ (fn.name == "runtime.NumGoroutine") = false ∧ fn.body = some c) (hm : mrow P T name = some (#[], some (f, pr))) (hc : ev n ρ c = .iface T v) (hr : (receiverAt T (.val v) pr (some ((name.splitOn ".").getLastD name))).run P w = .ok r w)
    (hx : r :: xs.toList.map (ev n ρ) = args) : Enters P n ρ ⟨dst, .call ⟨.invoke c name, xs, Ts⟩, ty, pos, af, gd⟩ f args w := by
  obtain ⟨fn, cd, h1, h2, h3⟩ := hf
  have hx' : #[r] ++ xs.map (ev n ρ) = args.toArray := by
    rw [← hx]; apply Array.ext'; simp
  have hdp : Made.depth = 100 := rfl
  have hd : ∃ k, P.types.size + Made.depth = k + 1 := ⟨P.types.size + 99, by omega⟩
  obtain ⟨k, hk⟩ := hd
  have hmm := run_method (P := P) (w := w) (fuel := k) hm hr
  have e0 : (#[Value.iface T v] ++ xs.map (ev n ρ))[0]? = some (.iface T v) := by
    rw [Array.getElem?_append_left (by simp)]; rfl
  have e1 : (#[Value.iface T v] ++ xs.map (ev n ρ)).extract 1 (#[Value.iface T v] ++ xs.map (ev n ρ)).size = xs.map (ev n ρ) := by
    apply Array.ext'
    rw [Array.toList_extract, List.extract_eq_drop_take']
    simp only [Array.size_append, Array.size_map, Array.toList_append, Array.toList_map, List.size_toArray, List.length_cons, List.length_nil, List.cons_append, List.nil_append, List.drop_one]
    rw [List.take_of_length_le (by simp; omega)]; rfl
  simp only [Enters, execOp, resolve, hc, Sem.run_bind, Sem.run_pure, Result.andThen_ok, invoke, e0, e1, callMethod, run_program, hk, hmm, callFunc, hx', h1, h2, h3]
  simp

theorem ent_ip (hf : ∃ fn c, P.funcs[f]? = some fn ∧ (fn.name == "runtime.NumGoroutine") = false ∧ fn.body = some c) (hm : mrow P T name = some (#[], some (f, true))) (hT : P.underlying T = some (.pointer E)) (hc : ev n ρ c = .iface T v)
    (hx : v :: xs.toList.map (ev n ρ) = args) : Enters P n ρ ⟨dst, .call ⟨.invoke c name, xs, Ts⟩, ty, pos, af, gd⟩ f args w :=
  enters_i hf hm hc (by simp only [receiverAt, underlying, Sem.run_bind, run_program, Result.andThen_ok, hT, Sem.run_pure, Place.get]) hx
theorem ent_iv (hf : ∃ fn c, P.funcs[f]? = some fn ∧ (fn.name == "runtime.NumGoroutine") = false ∧ fn.body = some c) (hm : mrow P T name = some (#[], some (f, false))) (hT : P.underlying T = some (.pointer E)) (hE : P.underlying E = some D) (hD : (match D with | .struct _ => false | .array _ _ => false | _ => true) = true)
    (hc : ev n ρ c = .iface T (pt b o)) (hl : HCell w.heap b o = some u) (hx : u :: xs.toList.map (ev n ρ) = args) : Enters P n ρ ⟨dst, .call ⟨.invoke c name, xs, Ts⟩, ty, pos, af, gd⟩ f args w := by
  have hag : (isAgg E).run P w = .ok false w := by
    simp only [isAgg, underlying, Sem.run_bind, run_program, Result.andThen_ok, hE, Sem.run_pure]
    cases D <;> simp_all
  rw [HCell_eq] at hl
  have hchk : ∀ s, (Builtin.ssaWrapNilChk_ #[T] T #[pt b o, strVal "", strVal s]).run P w = .ok (pt b o) w := fun _ => rfl
  refine enters_i hf hm hc ?_ hx
  simp [receiverAt, underlying, hT, Place.get, hchk, asAddr, loadVar, hag, load, Sem.run, hl]
end
end Go.Vs

namespace Go.Vs
open Go

def wk (k : IntKind) (n : Int) : Int := k.wrap n
def gshl (k : IntKind) (x n : Int) : Int := k.wrap (x * 2 ^ (min n.toNat k.bits))
def gshr (k : IntKind) (x n : Int) : Int := x.fdiv (2 ^ (min n.toNat k.bits))
def gandk (k : IntKind) (a b : Int) : Int := k.wrap ((BitVec.ofInt k.bits a &&& BitVec.ofInt k.bits b).toNat)
def gxork (k : IntKind) (a b : Int) : Int := k.wrap ((BitVec.ofInt k.bits a ^^^ BitVec.ofInt k.bits b).toNat)
def gsh (n r : Int) : Option Int := if n < 0 then none else some r
theorem gsh_some {n r q : Int} (h : gsh n r = some q) : ¬ n < 0 ∧ q = r := by
  unfold gsh at h; split at h
  · cases h
  · exact ⟨by assumption, (Option.some.inj h).symm⟩

section
variable {P : Program} {H : Array Obj} {n : Nat} {ρ : Nat → Value} {dst : Option Nat} {ty T T' : TypeId} {pos : String} {af : Array Edge} {gd : Option (Nat × Bool)} {x y : Operand} {a b q : Int} {k k' : IntKind}
theorem rvk_sub (hx : ev n ρ x = .int k a) (hy : ev n ρ y = .int k b) : RunV P H n ρ ⟨dst, .binOp .sub T x y T', ty, pos, af, gd⟩ (.int k (wk k (a - b))) := fun w _ => by
  simp [execOp, hx, hy, eqGuard, binOp, Op.intArith, wk]
theorem rvk_and (hx : ev n ρ x = .int k a) (hy : ev n ρ y = .int k b) : RunV P H n ρ ⟨dst, .binOp .and T x y T', ty, pos, af, gd⟩ (.int k (gandk k a b)) := fun w _ => by
  simp only [execOp, hx, hy, eqGuard, binOp]; simp [Op.intBits, gandk]
theorem rvk_xor (hx : ev n ρ x = .int k a) (hy : ev n ρ y = .int k b) : RunV P H n ρ ⟨dst, .binOp .xor T x y T', ty, pos, af, gd⟩ (.int k (gxork k a b)) := fun w _ => by
  simp only [execOp, hx, hy, eqGuard, binOp]; simp [Op.intBits, gxork]
theorem rvk_geq (hx : ev n ρ x = .int k a) (hy : ev n ρ y = .int k b) : RunV P H n ρ ⟨dst, .binOp .geq T x y T', ty, pos, af, gd⟩ (B (decide (b ≤ a))) := fun w _ => by
  simp [execOp, hx, hy, eqGuard, binOp, Op.intCmp]
theorem rvk_shl (hx : ev n ρ x = .int k a) (hy : ev n ρ y = .int k' b) (hb : ¬ b < 0) : RunV P H n ρ ⟨dst, .binOp .shl T x y T', ty, pos, af, gd⟩ (.int k (gshl k a b)) := fun w _ => by
  simp [execOp, hx, hy, eqGuard, binOp, Op.shift, gshl, hb]
theorem rvk_shr (hx : ev n ρ x = .int k a) (hy : ev n ρ y = .int k' b) (hb : ¬ b < 0) : RunV P H n ρ ⟨dst, .binOp .shr T x y T', ty, pos, af, gd⟩ (.int k (gshr k a b)) := fun w _ => by
  simp [execOp, hx, hy, eqGuard, binOp, Op.shift, gshr, hb]
theorem rvk_shlG (h : gsh b (gshl k a b) = some q) (hx : ev n ρ x = .int k a) (hy : ev n ρ y = .int k' b) : RunV P H n ρ ⟨dst, .binOp .shl T x y T', ty, pos, af, gd⟩ (.int k q) := by
  obtain ⟨h0, rfl⟩ := gsh_some h; exact rvk_shl hx hy h0
theorem rvk_conv (hT : P.underlying T = some (.int k)) (hT' : P.underlying T' = some (.int k')) (hx : ev n ρ x = .int k a) : RunV P H n ρ ⟨dst, .convert T T' x, ty, pos, af, gd⟩ (.int k' (wk k' a)) := fun w _ => by
  simp [execOp, hx, convert, underlying, hT, hT', Conv.intToInt, wk]
theorem gmake_len {α : Type} {k : Int} {z0 : α} {xs : List α} (h : gmake k z0 = some xs) : xs.length = k.toNat := by
  unfold gmake at h; split at h
  · cases h; exact List.length_replicate
  · cases h
theorem part_int {t j : Nat} {xs : Array Value} {u : Value} (ht : P.underlying t = some (.int .i64)) (w : World) (h : xs[j]? = some u) : (part t xs j).run P w = .ok u w := by
  have hag : (isAgg t).run P w = .ok false w := by
    simp only [isAgg, underlying, Sem.run_bind, run_program, Result.andThen_ok, ht, Sem.run_pure]
  simp [part, hag, h]
def IntFs (P : Program) : Nat → List Field → Prop
  | _, [] => True
  | j, f :: fs => f.offset = j ∧ (f.name ≠ "_") ∧ P.underlying f.type = some (.int .i64) ∧ IntFs P (j + 1) fs
theorem run_eqInts {d : Nat} (w : World) : ∀ (fs : List Field) (j : Nat) (xs ys : List Int), xs.length = ys.length → j + fs.length = xs.length → IntFs P j fs →
    (Op.eqFields (d + 1) (xs.map I).toArray (ys.map I).toArray fs).run P w = .ok (xs.drop j == ys.drop j) w
  | [], j, xs, ys, hl, hj, _ => by
    have e1 : xs.drop j = [] := List.drop_eq_nil_of_le (by simp at hj; omega)
    have e2 : ys.drop j = [] := List.drop_eq_nil_of_le (by simp at hj; omega)
    rw [e1, e2]; rfl
  | f :: fs, j, xs, ys, hl, hj, ⟨h1, h2, h3, h5⟩ => by
    simp only [List.length_cons] at hj
    have ih := run_eqInts (d := d) w fs (j + 1) xs ys hl (by omega) h5
    have hjx : j < xs.length := by omega
    have hjy : j < ys.length := by omega
    have p1 := part_int (P := P) h3 (xs := (xs.map I).toArray) (u := I xs[j]) (j := f.offset) w (by simp [h1, hjx])
    have p2 := part_int (P := P) h3 (xs := (ys.map I).toArray) (u := I ys[j]) (j := f.offset) w (by simp [h1, hjy])
    have p3 : (Op.equalIn (d + 1) f.type (I xs[j]) (I ys[j])).run P w = .ok (xs[j] == ys[j]) w := by
      rw [Op.equalIn]
      simp only [underlying, Sem.run_bind, run_program, Result.andThen_ok, h3, Sem.run_pure, if_true]
    rw [List.drop_eq_getElem_cons hjx, List.drop_eq_getElem_cons hjy, List.cons_beq_cons]
    simp only [Op.eqFields, ne_eq, h2, not_false_eq_true, if_true, Sem.run_bind, p1, p2, p3, Result.andThen_ok]
    cases hb : xs[j] == ys[j] with
    | true => simp only [Bool.not_true, Bool.false_eq_true, if_false, ih, Bool.true_and]
    | false => simp only [Bool.not_false, if_true, Bool.false_and]; rfl
theorem rv_neqI {xs ys : List Int} (hT : P.underlying T = some (.struct (P.fieldsOf T))) (hg : P.eqGuardType P.depth T = false) (hp : P.stoodInHeld T = false) (hl : xs.length = ys.length) (hj : (P.fieldsOf T).toList.length = xs.length) (hf : IntFs P 0 (P.fieldsOf T).toList)
    (hx : ev n ρ x = .agg (xs.map I).toArray) (hy : ev n ρ y = .agg (ys.map I).toArray) : RunV P H n ρ ⟨dst, .binOp .neq T x y T', ty, pos, af, gd⟩ (B (!(xs == ys))) := fun w _ => by
  have e := run_eqInts (P := P) (d := 9998) w (P.fieldsOf T).toList 0 xs ys hl (by omega) hf
  simp only [execOp, hx, hy, Sem.run_bind, run_eqGuard_agg w _ _ _ _ _ _ hg, Result.andThen_ok, run_neq_struct, show (10000 : Nat) = 9999 + 1 from rfl, run_equalIn_agg w 9999 T _ _ hT hp, show (9999 : Nat) = 9998 + 1 from rfl, e, List.drop_zero, Sem.run_pure]
end
section
variable {S0 : BS} {σ0 σ : St} {L : List Ch} {lo b o i : Nat} {pre suf : List Value}
theorem plain_ints (xs : List Int) : ∀ u ∈ List.map I xs, plain u = true := by
  intro u hu
  obtain ⟨x, _, rfl⟩ := List.mem_map.1 hu
  rfl
theorem arr_set' (xs : List Int) (k : Nat) (v : Int) : wrL (xs.map I) (k * 1) [I v] = (xs.set k v).map I := by
  have := arr_set xs k v
  rw [Nat.zero_add] at this; exact this
theorem Hp.arrCell {xs : List Int} {a x : Int} (H : Hp S0 σ0 σ L) (i : Nat) (h : nth L i = some (Ch.bx lo b o (xs.map I) pre suf)) (hx : gidx xs a = some x) : HCell σ.w.heap b (o + a.toNat * 1) = some (I x) := by
  obtain ⟨h0, h1, h2⟩ := gidx_some hx
  rw [Nat.mul_one]
  exact bx_at (H.bx i h) (by simp [h1, h2])
end
end Go.Vs

namespace Go.Vs
open Go

section
variable {P : Program} {n : Nat} {ρ : Nat → Value} {σ0 σ : St} {S0 : BS} {L R : List Ch} {u v : Value} {T T' E E' ty : TypeId} {pos : String} {af : Array Edge} {gd : Option (Nat × Bool)} {dst : Option Nat} {x y q : Operand} {a l h k m : Int} {lo el bt s c c' : Nat} {z : Value}
variable {α : Type} [Rp α] {xs ys p r : List α} {ad ad' : Option Addr} {H : Array Obj}

theorem Ow.view (hO : Ow σ lo el (Sl ad xs c) xs) (hg : gslice xs l h = some p) (hs : Slc ad xs.length c (Rp.sz α) l h ad' p.length c') : Ow σ lo el (Sl ad' p c') p ∧ ∀ b, blk (Sl ad' p c') = some b → blk (Sl ad xs c) = some b := by
  obtain ⟨ad2, c2, hs2, h1, h2⟩ := hO.slice hg
  have e1 : ad' = ad2 := hs.ea.trans hs2.ea.symm
  have e2 : c' = c2 := hs.ec.trans hs2.ec.symm
  subst e1 e2
  exact ⟨h1, h2⟩

theorem Rd.first (hS : Rd el σ u ys) (k : Nat) (hk : k ≤ ys.length) : ∃ K : List Value, K.length = k * Rp.sz α ∧ (∀ i, (hi : i < k) → ∃ cs, Rp.rp el σ cs (ys[i]'(by omega)) ∧ ∀ j, (hj : j < cs.length) → K[i * Rp.sz α + j]? = some cs[j]) ∧ (∀ t ∈ K, Go.Vs.plain t = true) ∧ (Builtin.firstCells (Rp.sz α) k u).run P σ.w = .ok K.toArray σ.w := by
  obtain ⟨K, h1, h2, h3⟩ := hS.row
  have hle : k * Rp.sz α ≤ ys.length * Rp.sz α := Nat.mul_le_mul_right _ hk
  refine ⟨K.take (k * Rp.sz α), by rw [List.length_take]; omega, fun i hi => ?_, fun t ht => Rd.plain h1 h2 t (List.mem_of_mem_take ht), ?_⟩
  · obtain ⟨cs, h4, h5⟩ := h2 i (by omega)
    refine ⟨cs, h4, fun j hj => ?_⟩
    have hl := Rp.len h4
    have : (i + 1) * Rp.sz α ≤ k * Rp.sz α := Nat.mul_le_mul_right _ hi
    rw [Nat.add_mul] at this
    rw [List.getElem?_take, if_pos (by omega)]
    exact h5 j hj
  · rcases h3 with ⟨⟨ad, c, rfl⟩, rfl⟩ | ⟨b, o, c, rfl, h3⟩
    · have : k = 0 := by simpa using hk
      subst this
      cases ad with
      | none => simp [Builtin.firstCells]
      | some a => simp [Builtin.firstCells, loadCells, loadCellsFrom]
    · have := run_loadCellsFrom (P := P) σ.w b o (k * Rp.sz α) 0 (K.take (k * Rp.sz α)) [] (by rw [List.length_take]; omega) (fun j hj => by
        rw [List.length_take] at hj
        have := h3 j (by omega)
        simp only [Nat.zero_add, List.getElem_take]
        exact this)
      simpa [Builtin.firstCells, loadCells] using this

end
end Go.Vs

namespace Go.Vs
open Go

def gsidx (bs : List UInt8) (i : Int) : Option Int := if 0 ≤ i then (bs[i.toNat]?).map fun b => (b.toNat : Int) else none
section
variable {P : Program} {H : Array Obj} {n : Nat} {ρ : Nat → Value} {d : Option Nat} {ty T : TypeId} {pos : String} {af : Array Edge} {gd : Option (Nat × Bool)}
theorem bytes_get {bs : List UInt8} {i : Nat} : (⟨bs.toArray⟩ : ByteArray)[i]? = bs[i]? := by
  rw [getElem?_def, getElem?_def]
  by_cases h : i < bs.length
  · rw [dif_pos h, dif_pos (by simpa [ByteArray.size] using h)]
    rfl
  · rw [dif_neg h, dif_neg (by simpa [ByteArray.size] using h)]
theorem rv_sidx {bs : List UInt8} {x y : Operand} {a e : Int} {k : IntKind} (hT : P.underlying T = some .string) (hx : ev n ρ x = .string ⟨bs.toArray⟩) (hy : ev n ρ y = .int k a) (hg : gsidx bs a = some e) :
    RunV P H n ρ ⟨d, .index T x y, ty, pos, af, gd⟩ (.int .u8 e) := fun w _ => by
  unfold gsidx at hg
  split at hg
  · rename_i h0
    cases hb : bs[a.toNat]? with
    | none => rw [hb] at hg; cases hg
    | some b =>
      rw [hb] at hg
      have he := Option.some.inj hg
      have hb' : (⟨bs.toArray⟩ : ByteArray)[a.toNat]? = some b := bytes_get.trans hb
      simp [execOp, hx, hy, Instr.index, asIntOf, underlying, hT, h0, hb', ← he]
  · cases hg
end
end Go.Vs

namespace Go.Vs
open Go Go.ChangeShapes Go.WideShapes Go.ChangeAt Go.RowKit

theorem Md.below {S : BS} {σ σ' : St} (m : Md S σ σ') (hS : ∀ b, ¬ S b) : Below σ.w.heap.size σ.w σ'.w :=
  ⟨m.os, m.tape, m.output, m.size, fun k hk => m.block k hk (hS k)⟩
theorem cov_nil : ∀ b, ¬ cov [] b := fun _ h => h
theorem cov_ro {α : Type} [Rp α] {el : Nat} {v : Value} {xs : List α} {L : List Ch} (h : ∀ b, ¬ cov L b) : ∀ b, ¬ cov (Ch.ro el v xs :: L) b := fun b hb => hb.elim (fun h => h) (h b)
theorem all_ro {α : Type} [Rp α] {el : Nat} {v : Value} {xs : List α} {L : List Ch} {σ : St} (h : RS el σ v xs) (k : allAs σ L) : allAs σ (Ch.ro el v xs :: L) := ⟨h, k⟩
theorem apart_ro {α : Type} [Rp α] {el : Nat} {v : Value} {xs : List α} {L : List Ch} (k : apart L) : apart (Ch.ro el v xs :: L) := ⟨fun _ h => h.elim, k⟩

def bytesOf (zs : List Int) : List UInt8 := zs.map fun n => n.toNat.toUInt8
theorem byte_back {n : Int} (h : (Lit.int .u8 n).wf = true) : ((n.toNat.toUInt8).toNat : Int) = n := by
  have h1 : IntKind.u8.min = 0 := rfl
  have h2 : IntKind.u8.max = 255 := rfl
  simp only [Lit.wf, Bool.and_eq_true, decide_eq_true_eq, h1, h2] at h
  have : n.toNat % 256 = n.toNat := Nat.mod_eq_of_lt (by omega)
  rw [Nat.toUInt8, UInt8.toNat_ofNat', this]
  omega

theorem bytes_in {W : World} {b off len cap : Nat} {zs : List Int} (hb : b < W.heap.size) (hl : len ≤ cap) (hz : zs.length = len)
    (hc : ∀ i, i < zs.length → W.cell? ⟨b, off + i, none⟩ = some (.int .u8 (zs.getD i 0))) (hw : ∀ n ∈ zs, (Lit.int .u8 n).wf = true) :
    ∃ σ : St, σ.w = W ∧ RS 0 σ (Sl (some ⟨b, off, none⟩) (bytesOf zs) cap) (bytesOf zs) := by
  refine ⟨⟨W, fun c => if c = b then off + len else 0, fun c hc' => if_neg (by omega)⟩, rfl, .inr ⟨b, off, cap, rfl, Nat.zero_le _, by simp [bytesOf]; omega, ?_, fun i hi => ?_⟩⟩
  · show off + (bytesOf zs).length * 1 ≤ (if b = b then off + len else 0)
    rw [if_pos rfl]; simp [bytesOf]; omega
  · have hi' : i < zs.length := by simpa [bytesOf] using hi
    refine ⟨[.int .u8 ((bytesOf zs)[i].toNat)], rfl, fun j hj => ?_⟩
    have hj0 : j = 0 := by simpa using hj
    subst hj0
    have := hc i hi'
    show W.cell? ⟨b, off + i * 1 + 0, none⟩ = _
    rw [Nat.mul_one, Nat.add_zero, this]
    have hm : zs.getD i 0 = zs[i] := by simp [List.getD, hi']
    simp only [hm, bytesOf, List.getElem_map, List.getElem_cons_zero]
    rw [byte_back (hw _ (List.getElem_mem _))]
theorem nil_in (W : World) (a : Option Addr) (c : Nat) : ∃ σ : St, σ.w = W ∧ RS 0 σ (Sl a ([] : List UInt8) c) ([] : List UInt8) := ⟨⟨W, fun _ => 0, fun _ _ => rfl⟩, rfl, .inl ⟨⟨a, c, rfl⟩, rfl⟩⟩
end Go.Vs

namespace Go.Vs
open Go

def optB (x : Operand) (p : Nat → Bool) : Bool := match x with
  | .tmp t => p t
  | _ => true
def notSel (o : Op) : Bool := match o with
  | .select _ _ => false
  | _ => true
def sqB (ops : Array Oper) (n : Nat) : Bool := (List.range n).all fun i => match ops[i]? with
  | some o => notSel o.op && (o.op.operands.toList.all fun x => optB x fun t => offB ops n t || (List.range i).any fun j => waits o j && (dstOf ops j == some t)) && (match o.guard with | none => true | some (j, _) => waits o j && Nat.blt j i)
  | none => false
def SeqW (P : Program) (ops : Array Oper) (H : Array Obj) (N : Nat) (K : (Nat → Value) → Prop) : List Oper → (Nat → Value) → Prop
  | [], ρ => K ρ
  | o :: r, ρ => ∃ v d, o.dst = some d ∧ ((Region.wanted o (yv ops N ρ) = true ∧ RunV P H N ρ o v) ∨ (Region.wanted o (yv ops N ρ) = false ∧ v = undef)) ∧ SeqW P ops H N K r (upd ρ d v)
def env : List Oper → List Value → (Nat → Value) → (Nat → Value)
  | o :: r, v :: vs, ρ => env r vs (upd ρ (o.dst.getD 0) v)
  | _, _, ρ => ρ
section
variable {P : Program} {ops : Array Oper} {H : Array Obj} {N : Nat} {K : (Nat → Value) → Prop} {Q : Exit → Act → World → Prop}
def StepOK (P : Program) (ops : Array Oper) (H : Array Obj) (N : Nat) (o : Oper) (ρ : Nat → Value) (v : Value) : Prop :=
  ∃ d, o.dst = some d ∧ ((Region.wanted o (yv ops N ρ) = true ∧ RunV P H N ρ o v) ∨ (Region.wanted o (yv ops N ρ) = false ∧ v = undef))
theorem seq_spec : ∀ (l : List Oper) (ρ : Nat → Value), SeqW P ops H N K l ρ → ∃ vs : List Value, vs.length = l.length ∧ K (env l vs ρ) ∧ ∀ i o, l[i]? = some o → StepOK P ops H N o (env (l.take i) (vs.take i) ρ) (vs.getD i undef)
  | [], ρ, h => ⟨[], rfl, h, fun i o ho => by simp at ho⟩
  | o :: r, ρ, ⟨v, d, hd, hv, h⟩ => by
    obtain ⟨vs, h1, h2, h3⟩ := seq_spec r (upd ρ d v) h
    refine ⟨v :: vs, by simp [h1], ?_, fun i o' ho => ?_⟩
    · simp only [env, hd, Option.getD_some]; exact h2
    · cases i with
      | zero =>
        simp only [List.getElem?_cons_zero, Option.some.injEq] at ho
        subst ho
        exact ⟨d, hd, by simpa [env] using hv⟩
      | succ i =>
        have := h3 i o' (by simpa using ho)
        simpa [env, hd] using this
theorem env_off {t : Nat} : ∀ (l : List Oper) (vs : List Value) (ρ : Nat → Value), (∀ o ∈ l, ∀ d, o.dst = some d → d ≠ t) → (∀ o ∈ l, o.dst.isSome = true) → env l vs ρ t = ρ t
  | [], vs, ρ, _, _ => by cases vs <;> rfl
  | o :: r, [], ρ, _, _ => rfl
  | o :: r, v :: vs, ρ, h, hs => by
    rw [env, env_off r vs _ (fun o' ho' => h o' (by simp [ho'])) (fun o' ho' => hs o' (by simp [ho']))]
    cases hd : o.dst with
    | none => have := hs o (by simp); rw [hd] at this; cases this
    | some d =>
      have : t ≠ d := fun e => h o (by simp) d hd e.symm
      show (bif Nat.beq t d then v else ρ t) = ρ t
      rw [beq_f this]; rfl
theorem env_at {d j : Nat} : ∀ (l : List Oper) (vs : List Value) (ρ : Nat → Value), vs.length = l.length → (∀ o ∈ l, o.dst.isSome = true) → (∃ o, l[j]? = some o ∧ o.dst = some d) → (∀ k o, j < k → l[k]? = some o → o.dst ≠ some d) → env l vs ρ d = vs.getD j undef
  | [], vs, ρ, _, _, ⟨o, ho, _⟩, _ => by simp at ho
  | o :: r, [], ρ, hl, _, _, _ => by simp at hl
  | o :: r, v :: vs, ρ, hl, hs, ⟨o', ho', hd'⟩, hk => by
    rw [env]
    cases j with
    | zero =>
      simp only [List.getElem?_cons_zero, Option.some.injEq] at ho'
      subst ho'
      rw [hd', Option.getD_some, env_off r vs _ (fun o2 ho2 d2 hd2 e => by
        obtain ⟨k, hk2, he⟩ := List.mem_iff_getElem.1 ho2
        subst e
        exact hk (k + 1) o2 (by omega) (by simp [hk2, he]) hd2) (fun o2 ho2 => hs o2 (by simp [ho2]))]
      show (bif Nat.beq d d then v else ρ d) = _
      rw [beq_t]; rfl
    | succ j =>
      rw [env_at r vs _ (by simpa using hl) (fun o2 ho2 => hs o2 (by simp [ho2])) ⟨o', by simpa using ho', hd'⟩ (fun k o2 hjk ho2 => hk (k + 1) o2 (by omega) (by simpa using ho2))]
      simp
theorem ev_of_look {ρ ρ' : Nat → Value} {x : Operand} (h : ∀ t, x = .tmp t → look N ρ t = look N ρ' t) : ev N ρ x = ev N ρ' x := by
  cases x with
  | tmp t => exact h t rfl
  | const v => rfl
  | global g => rfl
  | func f => rfl
theorem runV_congr {ρ ρ' : Nat → Value} {o : Oper} {v : Value} (hs : notSel o.op = true) (h : ∀ x ∈ o.op.operands, ev N ρ x = ev N ρ' x) (hr : RunV P H N ρ' o v) : RunV P H N ρ o v := by
  intro w hw
  rw [execOp_congr o (fun cs b e => by rw [e] at hs; cases hs) h]
  exact hr w hw
theorem wanted_congr {ρ ρ' : Nat → Value} {o : Oper} (h : ∀ j b, o.guard = some (j, b) → yv ops N ρ j = yv ops N ρ' j) : Region.wanted o (yv ops N ρ) = Region.wanted o (yv ops N ρ') := by
  unfold Region.wanted
  cases hg : o.guard with
  | none => rfl
  | some p => obtain ⟨j, b⟩ := p; simp only [h j b hg]

theorem rgP {id : Nat} {l : List Oper} {σ : St} {ρ0 : Nat → Value} (n : Nat) (hm : P.follows .mixedOrders = true) (hB : rgB N l.toArray n [] [[]] (List.replicate n [(0, 0)]) 0 = true) (hS : sqB l.toArray n = true)
    (hseq : SeqW P l.toArray σ.w.heap N (fun ρ => ∀ σ' : St, Md (cov []) σ σ' → wpList P l.toArray Q (l.drop n) (fr N ρ) σ'.w) (l.take n) ρ0) :
    (Code.region id l.toArray true).wp P Q (fr N ρ0) σ.w := by
  obtain ⟨vs, hvl, hK, hst⟩ := seq_spec _ _ hseq
  have hB' := hB
  simp only [rgB, Bool.and_eq_true] at hB'
  obtain ⟨⟨⟨⟨⟨⟨⟨hn, hD⟩, _⟩, _⟩, _⟩, _⟩, _⟩, _⟩ := hB'
  have hnl : n ≤ l.length := by simpa using Nat.le_of_ble_eq_true hn
  rw [List.length_take, Nat.min_eq_left hnl] at hvl
  have hget : ∀ i, i < n → (l.take n)[i]? = l.toArray[i]? := fun i hi => by simp [List.getElem?_take, hi]
  have hex : ∀ i, i < n → ∃ o, l.toArray[i]? = some o := fun i hi => by
    have : i < l.length := by omega
    exact ⟨l[i], by simp [this]⟩
  -- what each operation writes
  have hdst : ∀ i, i < n → ∃ d, dstOf l.toArray i = some d ∧ d < N ∧ ∀ j, j < n → j ≠ i → dstOf l.toArray j ≠ some d := by
    intro i hi
    obtain ⟨o, ho⟩ := hex i hi
    obtain ⟨d, hd, _⟩ := hst i o (by rw [hget i hi]; exact ho)
    have hdi : dstOf l.toArray i = some d := by unfold dstOf; rw [ho]; exact hd
    have := List.all_eq_true.1 hD i (List.mem_range.2 hi)
    simp only [Bool.and_eq_true, hdi] at this
    obtain ⟨⟨h1, _⟩, h3⟩ := this
    refine ⟨d, hdi, ?_, fun j hj hne e => ?_⟩
    · exact Classical.byContradiction fun hc => by rw [blt_f hc] at h1; cases h1
    · have := List.all_eq_true.1 h3 j (List.mem_range.2 hj)
      rw [beq_f (Ne.symm hne)] at this
      simp [e] at this
  have hsome : ∀ i, i ≤ n → ∀ o ∈ l.take i, o.dst.isSome = true := by
    intro i hi o ho
    obtain ⟨k, hk, he⟩ := List.mem_iff_getElem.1 ho
    rw [List.length_take] at hk
    obtain ⟨d, hd, _⟩ := hdst k (by omega)
    rw [List.getElem_take] at he
    have hkl : k < l.length := by omega
    unfold dstOf at hd
    rw [show l.toArray[k]? = some o by simp [hkl, he]] at hd
    simp only [Option.bind_some] at hd
    rw [hd]; rfl
  have htt : ∀ i, i ≤ n → (l.take n).take i = l.take i := fun i hi => by rw [List.take_take, Nat.min_eq_left hi]
  have henvoff : ∀ i t, i ≤ n → (∀ k, k < n → dstOf l.toArray k ≠ some t) → env (l.take i) (vs.take i) ρ0 t = ρ0 t := by
    intro i t hi ht
    refine env_off _ _ _ (fun o ho d hd e => ?_) (hsome i hi)
    obtain ⟨k, hk, he⟩ := List.mem_iff_getElem.1 ho
    rw [List.length_take] at hk
    rw [List.getElem_take] at he
    have hkl : k < l.length := by omega
    refine ht k (by omega) ?_
    unfold dstOf
    rw [show l.toArray[k]? = some o by simp [hkl, he]]
    subst e; exact hd
  have henvat : ∀ i j d, i ≤ n → j < i → dstOf l.toArray j = some d → env (l.take i) (vs.take i) ρ0 d = vs.getD j undef := by
    intro i j d hi hj hd
    have hjl : j < l.length := by omega
    rw [env_at (j := j) _ _ _ (by simp; omega) (hsome i hi) ?_ ?_]
    · simp [List.getD, List.getElem?_take, hj]
    · unfold dstOf at hd
      rw [show l.toArray[j]? = some l[j] by simp [hjl]] at hd
      exact ⟨l[j], by simp [List.getElem?_take, hj, hjl], hd⟩
    · intro k o hjk ho hdo
      have hkl : k < i := by
        refine Classical.byContradiction fun hc => ?_
        rw [List.getElem?_take, if_neg hc] at ho; cases ho
      rw [List.getElem?_take, if_pos hkl] at ho
      obtain ⟨d', h1, _, h3⟩ := hdst j (by omega)
      have : d' = d := by rw [hd] at h1; exact (Option.some.inj h1).symm
      subst this
      refine h3 k (by omega) (by omega) ?_
      unfold dstOf
      rw [show l.toArray[k]? = some o by simpa using ho]
      exact hdo
  refine rg2e (Nm := Unit) (σ := σ) n [] [[]] (List.replicate n [(0, 0)]) 0 [fun _ σm => σm.w.heap = σ.w.heap ∧ Md (cov []) σ σm] (vs.map fun v _ => v) () hm hB (fun σ1 hh m => ⟨hh, m⟩) ?_ ?_
  · -- each operation
    have main : ∀ i o, i < n → l.toArray[i]? = some o → ∀ k, Ob (Nm := Unit) P l.toArray N n ρ0 (Jl [fun _ σm => σm.w.heap = σ.w.heap ∧ Md (cov []) σ σm]) (Vl (vs.map fun v _ => v)) i o k k := by
      intro i o hi ho k nm ρ σm hJ hoff hdep
      have hS1 := List.all_eq_true.1 hS i (List.mem_range.2 hi)
      rw [ho] at hS1
      simp only [Bool.and_eq_true] at hS1
      obtain ⟨⟨hsel, hops⟩, hgd⟩ := hS1
      have hV : ∀ j, j < n → Vl (vs.map fun v (_ : Unit) => v) j nm = vs.getD j undef := by
        intro j hj
        unfold Vl
        have : j < vs.length := by omega
        simp [List.getD, this]
      have hlook : ∀ j d, waits o j = true → j < i → dstOf l.toArray j = some d → look N ρ d = look N (env (l.take i) (vs.take i) ρ0) d := by
        intro j d hw hj hd
        obtain ⟨d', h1, hdN, _⟩ := hdst j (by omega)
        have : d' = d := by rw [hd] at h1; exact (Option.some.inj h1).symm
        subst this
        rw [hdep j hw (blt_t (by omega)) d' hd, hV j (by omega), look_lt _ hdN, henvat i j d' (by omega) hj hd]
      have hev : ∀ x ∈ o.op.operands, ev N ρ x = ev N (env (l.take i) (vs.take i) ρ0) x := by
        intro x hx
        refine ev_of_look fun t ht => ?_
        subst ht
        have := List.all_eq_true.1 hops (.tmp t) (by simpa using hx)
        simp only [optB, Bool.or_eq_true] at this
        rcases this with h | h
        · unfold look
          rw [hoff t h, henvoff i t (by omega) (off_of h)]
        · obtain ⟨j, hj, hjw⟩ := List.any_eq_true.1 h
          simp only [Bool.and_eq_true] at hjw
          exact hlook j t hjw.1 (List.mem_range.1 hj) (by simpa using hjw.2)
      have hyv : ∀ j b, o.guard = some (j, b) → yv l.toArray N ρ j = yv l.toArray N (env (l.take i) (vs.take i) ρ0) j := by
        intro j b hg
        rw [hg] at hgd
        simp only [Bool.and_eq_true] at hgd
        have hji : j < i := Classical.byContradiction fun hc => by rw [blt_f hc] at hgd; cases hgd.2
        obtain ⟨d, h1, _, _⟩ := hdst j (by omega)
        have hl := hlook j d hgd.1 hji h1
        unfold dstOf at h1
        unfold yv
        simp only [h1, hl]
      obtain ⟨d, hd, hor⟩ := hst i o (by rw [hget i hi]; exact ho)
      rw [htt i (by omega)] at hor
      have hJ2 : σm.w.heap = σ.w.heap := by
        unfold Jl at hJ
        cases k with
        | zero => exact hJ.1
        | succ k => simp at hJ
      rcases hor with ⟨hw, hr⟩ | ⟨hw, hv⟩
      · refine dp_v (v := vs.getD i undef) ?_ ?_ (hV i hi) hJ
        · rw [wanted_congr hyv]; exact hw
        · rw [hJ2]; exact runV_congr hsel hev hr
      · refine dp_skip ?_ (by rw [hV i hi]; exact hv) hJ
        rw [wanted_congr hyv]; exact hw
    have build : ∀ m k : Nat, k + m = n → ∀ r : List Oper, r = l.drop k → AllOps (fun i o => AllK (Ob (Nm := Unit) P l.toArray N n ρ0 (Jl [fun _ σm => σm.w.heap = σ.w.heap ∧ Md (cov []) σ σm]) (Vl (vs.map fun v _ => v)) i o) (AtL (List.replicate n [(0, 0)]) i)) m k r := by
      intro m
      induction m with
      | zero => intro k _ r _; exact all_nil
      | succ m ih =>
        intro k hk r hr
        have hkl : k < l.length := by omega
        rw [List.drop_eq_getElem_cons hkl] at hr
        subst hr
        have hat : AtL (List.replicate n [(0, 0)]) k = [(0, 0)] := by
          unfold AtL
          have : k < n := by omega
          simp [List.getD, this]
        refine all_cons ?_ (ih (k + 1) (by omega) _ rfl)
        simp only [hat]
        exact ⟨main k l[k] (by omega) (by simp [hkl]) 0, trivial⟩
    exact build n 0 (by omega) l (by simp)
  · intro nm ρ σ' hJ hoff hrel
    have hJ2 : Md (cov []) σ σ' := hJ.2
    have hfr : fr N ρ = fr N (env (l.take n) vs ρ0) := by
      refine fr_ext fun t ht => ?_
      have hvt : vs.take n = vs := List.take_of_length_le (by omega)
      by_cases hoffb : offB l.toArray n t = true
      · have := henvoff n t (Nat.le_refl _) (off_of hoffb)
        rw [hvt] at this
        rw [hoff t hoffb, this]
      · have : ∃ i, i < n ∧ dstOf l.toArray i = some t := by
          refine Classical.byContradiction fun hc => hoffb ?_
          unfold offB
          rw [List.all_eq_true]
          intro i hi
          have : dstOf l.toArray i ≠ some t := fun e => hc ⟨i, List.mem_range.1 hi, e⟩
          simpa using this
        obtain ⟨i, hi, hd⟩ := this
        have h1 := hrel i (blt_t hi) t hd
        rw [look_lt _ ht] at h1
        have h2 := henvat n i t (Nat.le_refl _) hi hd
        rw [hvt] at h2
        rw [h1, h2]
        unfold Vl
        have : i < vs.length := by omega
        simp [List.getD, this]
    rw [hfr]
    exact hK σ' hJ2
variable {ρ : Nat → Value} {v : Value} {r : List Oper} {d : Nat} {op : Op} {ty : TypeId} {pos : String} {af : Array Edge} {gd : Option (Nat × Bool)}
theorem sq (hr : RunV P H N ρ ⟨some d, op, ty, pos, af, none⟩ v) (k : SeqW P ops H N K r (upd ρ d v)) : SeqW P ops H N K (⟨some d, op, ty, pos, af, none⟩ :: r) ρ := ⟨v, d, rfl, .inl ⟨wanted_none _ rfl _, hr⟩, k⟩
theorem sq_g {j : Nat} {b : Bool} (hy : yv ops N ρ j = some b) (hr : RunV P H N ρ ⟨some d, op, ty, pos, af, some (j, b)⟩ v) (k : SeqW P ops H N K r (upd ρ d v)) : SeqW P ops H N K (⟨some d, op, ty, pos, af, some (j, b)⟩ :: r) ρ := ⟨v, d, rfl, .inl ⟨wanted_yes rfl hy, hr⟩, k⟩
theorem sq_skip {j : Nat} {b : Bool} (hy : yv ops N ρ j = some (!b)) (k : SeqW P ops H N K r (upd ρ d undef)) : SeqW P ops H N K (⟨some d, op, ty, pos, af, some (j, b)⟩ :: r) ρ := ⟨undef, d, rfl, .inr ⟨wanted_no rfl hy, rfl⟩, k⟩
theorem sq_end (h : K ρ) : SeqW P ops H N K [] ρ := h
end
end Go.Vs

namespace Go.Vs
open Go

abbrev Fz (r : Option Nat) : Fence := { Fence.wide with round := r }

section
variable {P : Program} {ops : Array Oper} {Q : Exit → Act → World → Prop} {n d : Nat} {ρ : Nat → Value} {σ σ0 : St} {w : World} {v : Value} {rest : List Oper} {r : Option Nat}
variable {op : Op} {ty : TypeId} {pos : String} {af : Array Edge} {gd : Option (Nat × Bool)}

theorem stI (hnd : ∀ c, op ≠ .defer c) (hr : RunV P w.heap n ρ ⟨some d, op, ty, pos, af, none⟩ v) (k : wpListIn (Fz r) 0 P ops Q rest (fr n (upd ρ d v)) w) :
    wpListIn (Fz r) 0 P ops Q (⟨some d, op, ty, pos, af, none⟩ :: rest) (fr n ρ) w := by
  unfold wpListIn
  rw [if_pos (by rw [yielded_fr]; exact wanted_none _ rfl _)]
  refine ⟨fun _ _ => trivial, ?_⟩
  rw [Oper.semAt_eq _ _ _ hnd, fr_eval, hr w rfl]
  simp only [Oper.uponIn_value, fr_put]
  exact k
theorem stI_ex {Rz : Value → St → Prop} (hnd : ∀ c, op ≠ .defer c) (he : Ex P σ n ρ ⟨some d, op, ty, pos, af, none⟩ Rz)
    (k : ∀ v (σ' : St), Rz v σ' → wpListIn (Fz r) 0 P ops Q rest (fr n (upd ρ d v)) σ'.w) : wpListIn (Fz r) 0 P ops Q (⟨some d, op, ty, pos, af, none⟩ :: rest) (fr n ρ) σ.w := by
  obtain ⟨v, σ', h1, h2⟩ := he
  unfold wpListIn
  rw [if_pos (by rw [yielded_fr]; exact wanted_none _ rfl _)]
  refine ⟨fun _ _ => trivial, ?_⟩
  have h1' : (execOp (ev n ρ) ⟨some d, op, ty, pos, af, none⟩).run P σ.w = .ok (.value v) σ'.w := h1
  rw [Oper.semAt_eq _ _ _ hnd, fr_eval, h1']
  simp only [Oper.uponIn_value, fr_put]
  exact k v σ' h2
theorem stI_exS {Rs : St → Prop} (hnd : ∀ c, op ≠ .defer c) (he : ExS P σ n ρ ⟨none, op, ty, pos, af, none⟩ Rs)
    (k : ∀ (σ' : St), Rs σ' → wpListIn (Fz r) 0 P ops Q rest (fr n ρ) σ'.w) : wpListIn (Fz r) 0 P ops Q (⟨none, op, ty, pos, af, none⟩ :: rest) (fr n ρ) σ.w := by
  obtain ⟨σ', h1, h2⟩ := he
  unfold wpListIn
  rw [if_pos (by rw [yielded_fr]; exact wanted_none _ rfl _)]
  refine ⟨fun _ _ => trivial, ?_⟩
  have h1' : (execOp (ev n ρ) ⟨none, op, ty, pos, af, none⟩).run P σ.w = .ok .skip σ'.w := h1
  rw [Oper.semAt_eq _ _ _ hnd, fr_eval, h1']
  simp only [Oper.uponIn_skip, fr_put_none]
  exact k σ' h2
theorem stI_yield {xs : Array Operand} {Ts : Array TypeId} {y : Operand} {l : Nat} {args : List Value} {R : Ending → World → Prop} (hf : ev n ρ y = .func (.yield l) #[] #[]) (hx : xs.toList.map (ev n ρ) = args) (hy : YieldAt Fence.wide 0 P l args.toArray w R)
    (k : ∀ e w', R e w' → ∃ v, e = .returned v ∧ wpListIn (Fz r) 0 P ops Q rest (fr n (upd ρ d v)) w') :
    wpListIn (Fz r) 0 P ops Q (⟨some d, .call ⟨.value y, xs, Ts⟩, ty, pos, af, none⟩ :: rest) (fr n ρ) w := by
  obtain ⟨fn, tmps, assign, body, h1, h2⟩ := hy
  unfold wpListIn
  rw [if_pos (by rw [yielded_fr]; exact wanted_none _ rfl _)]
  refine ⟨fun _ _ => trivial, ?_⟩
  rw [Oper.semAt_eq _ _ _ (fun c h => by cases h), fr_eval]
  have hx' : xs.map (ev n ρ) = args.toArray := by rw [← hx, ← Array.toList_map]
  have h3 : (execOp (ev n ρ) ⟨some d, .call ⟨.value y, xs, Ts⟩, ty, pos, af, none⟩).run P w = .ok (.round l fn tmps assign body) w := by
    simp only [execOp, resolve, hf, Deferred.ofValue, Sem.run_bind, Sem.run_pure, Result.andThen_ok, invoke, hx']
    simp [h1]
  rw [h3, Oper.uponIn_round]
  refine ⟨fun h => (by cases h), ?_⟩
  have h2' : RoundIn (Fz r) 0 P l fn tmps assign body w R := h2
  refine h2'.mono ?_
  intro e w' hR
  obtain ⟨v, rfl, hk⟩ := k e w' hR
  simp only [fr_put]
  exact hk
theorem endI (h : Q .normal (fr n ρ) w) : wpListIn (Fz r) 0 P ops Q [] (fr n ρ) w := h
theorem rgI {id : Nat} {l : List Oper} (h : wpListIn (Fz r) 0 P l.toArray Q l (fr n ρ) w) : (Code.region id l.toArray false).wpIn (Fz r) 0 P Q (fr n ρ) w := wpIn_region_lit h
theorem cdI_cond {c : Operand} {x y : Code} (b : Bool) (hc : ev n ρ c = .bool b) (ht : b = true → x.wpIn (Fz r) 0 P Q (fr n ρ) w) (hf : b = false → y.wpIn (Fz r) 0 P Q (fr n ρ) w) :
    (Code.cond c x y).wpIn (Fz r) 0 P Q (fr n ρ) w := wpIn_cond_split (by rw [fr_eval]; exact hc) ht hf
end

def Ch.lp (l : Nat) (r : Loop) : Ch where
  dup := false
  fp i := i = l
  as σ := σ.w.heap[l]? = some (.loop r) ∧ σ.vis l = 0
  hdup h := by cases h
  hlt h i e := by subst e; exact lt_of_block h.1
  hst m hd h := by
    have hb := lt_of_block h.1
    have hS := hd l rfl
    exact ⟨(m.block l hb hS).trans h.1, (m.vis l hb hS).trans h.2⟩
def Ch.df (l : Nat) : Ch where
  dup := false
  fp i := i = l
  as σ := σ.w.heap[l]? = some (.deferred (some [])) ∧ σ.vis l = 0
  hdup h := by cases h
  hlt h i e := by subst e; exact lt_of_block h.1
  hst m hd h := by
    have hb := lt_of_block h.1
    have hS := hd l rfl
    exact ⟨(m.block l hb hS).trans h.1, (m.vis l hb hS).trans h.2⟩

section
variable {P : Program} {S0 : BS} {σ0 σ : St} {L : List Ch}
theorem Hp.newLp (H : Hp S0 σ0 σ L) (r : Loop) : Hp S0 σ0 (σ.new (.loop r) 0) (Ch.lp σ.size r :: L) :=
  Hp.frame0 (A' := [Ch.lp σ.size r]) H (Hp.fresh (St.new_mod _ _ _) _ ⟨St.new_new _ _ _, St.new_vis _ _ _⟩ (fun b hb => Nat.le_of_eq (Eq.symm hb)))
theorem Hp.newDf (H : Hp S0 σ0 σ L) : Hp S0 σ0 (σ.new (.deferred (some [])) 0) (Ch.df σ.size :: L) :=
  Hp.frame0 (A' := [Ch.df σ.size]) H (Hp.fresh (St.new_mod _ _ _) _ ⟨St.new_new _ _ _, St.new_vis _ _ _⟩ (fun b hb => Nat.le_of_eq (Eq.symm hb)))
theorem Hp.setLp {l : Nat} {r : Loop} (H : Hp S0 σ0 σ (Ch.lp l r :: L)) (r' : Loop) : Hp S0 σ0 (σ.put l (.loop r')) (Ch.lp l r' :: L) := by
  have h := H.all.1
  refine Hp.frame1 (A' := [Ch.lp l r']) H (Hp.one ((St.put_mod h.2).md.mono fun i hi => .inl ?_) ⟨World.put_at _ (lt_of_block h.1), h.2⟩ (fun b hb _ => .inl hb))
  exact (Option.some.inj hi).symm
theorem Hp.putDf {l : Nat} (H : Hp S0 σ0 σ (Ch.df l :: L)) (o : Obj) : Hp S0 σ0 (σ.put l o) L := by
  have h := H.all.1
  refine Hp.frame1 (A' := []) H ⟨(St.put_mod h.2).md.mono fun i hi => .inl ?_, trivial, trivial, fun b hb => hb.elim⟩
  exact (Option.some.inj hi).symm

theorem Hp.drop : ∀ (R : List Ch) {L : List Ch}, Hp S0 σ0 σ (R ++ L) → Hp S0 σ0 σ L
  | [], _, H => H
  | _ :: R, _, H => Hp.drop R H.tail
theorem wp_rangeF {g : Operand} {ps : Array Tmp} {assign body : Code} {Q : Exit → Act → World → Prop} {a : Act} {gf : Nat} {lb : Array Value} {N : Nat} {encs : Nat → Array Value}
    (hg : a.eval g = .func (.func gf) #[] lb) (eg : ∀ args w, (callFunc gf args).run P w = .ok (.enter gf args) w) (hps : ∀ i, i < N → (encs i).size = ps.size)
    (K : Nat → List Ch → Prop) (hK : K 0 L) (H : Hp S0 σ0 σ L)
    (hseq : ∀ (l : Nat) (J : Nat → St → Prop), (∀ {i σ σ'}, J i σ → Md (fun _ => False) σ σ' → J i σ') → (∀ {i σ}, J i σ → ∃ L R, K i L ∧ Hp S0 σ0 σ (R ++ L)) →
      (∀ i, i < N → ∀ σ, J i σ → YieldAt Fence.wide 0 P l (encs i) σ.w fun e W' => e = .returned (.bool true) ∧ ∃ σ', W' = σ'.w ∧ J (i + 1) σ') →
      ∀ σ, J 0 σ → CallsIn Fence.wide 0 P gf (#[.func (.yield l) #[] #[]] ++ lb) σ.w fun e W' => (∃ v, e = .returned v) ∧ ∃ σ', W' = σ'.w ∧ J N σ')
    (hbody : ∀ (l D i : Nat) (r r' : Loop), i < N → ∀ σ L, K i L → Hp S0 σ0 σ (Ch.lp l r :: Ch.df D :: L) →
      assign.wpIn (Fz (some l)) 0 P (Exit.then (fun a₁ w₁ => ∃ σ1 L1, w₁ = σ1.w ∧ Hp S0 σ0 σ1 (Ch.lp l r :: Ch.df D :: L1) ∧ ∀ σ2, Hp S0 σ0 σ2 (Ch.lp l r' :: Ch.df D :: L1) →
        body.wpIn (Fz (some l)) 0 P (fun e _ w => e = .normal ∧ ∃ σ3 L3, w = σ3.w ∧ K (i + 1) L3 ∧ Hp S0 σ0 σ3 (Ch.lp l r' :: Ch.df D :: L3)) a₁ σ2.w) (fun _ _ _ => False))
        { tmps := (ps.zip (encs i)).foldl (fun t (p, v) => t.setIfInBounds p v) a.tmps, defers := [] } σ.w)
    (hdone : ∀ (D : Nat) σ' L', K N L' → Hp S0 σ0 σ' (Ch.df D :: L') → Q .normal { a with defers := { target := .collected D, args := #[] } :: a.defers } σ'.w) :
    (Code.rangeFunc g ps assign body).wpIn (Fz none) 0 P Q a σ.w := by
  refine wpIn_rangeFunc ?_
  intro fn hfn
  obtain ⟨rec, hrec⟩ : ∃ rec : LoopState → Option Code → Loop, rec = fun st pe => { state := st, pending := pe, fn, tmps := a.tmps, params := ps, assign, body, defers := σ.w.heap.size } := ⟨_, rfl⟩
  have H1 := (H.newDf).newLp (rec .ready none)
  generalize hσ1 : (σ.new (.deferred (some [])) 0).new (.loop (rec .ready none)) 0 = σ1 at H1
  have hs : (σ.new (.deferred (some [])) 0).size = σ.w.heap.size + 1 := St.new_size _ _ _
  rw [hs] at H1
  have hsz : σ.size = σ.w.heap.size := rfl
  rw [hsz] at H1
  generalize hl : σ.w.heap.size + 1 = l at *
  generalize hD : σ.w.heap.size = D at *
  refine ⟨l, [{ target := .collected D, args := #[] }], σ1.w, { target := .fn (.func gf) lb, args := #[.func (.yield l) #[] #[]] }, σ1.w, gf, #[.func (.yield l) #[] #[]] ++ lb, σ1.w, ?_, ?_, ?_, ?_, fun h => (by cases h), ?_⟩
  · have := run_enterLoop_outer (P := P) (w := σ.w) fn a.tmps ps assign body
    rw [this, ← hσ1, hrec, hD, hl]
    rfl
  · simp only [resolve, hg]
    simp [go_sem]
  · intro f' hf'; trivial
  · simp [invoke, go_sem, eg]
  · refine (hseq l (fun i σ => ∃ L, K i L ∧ Hp S0 σ0 σ (Ch.lp l (rec .ready none) :: Ch.df D :: L)) (fun ⟨L, h1, h2⟩ m => ⟨L, h1, h2.grow m⟩) (fun ⟨L, h1, h2⟩ => ⟨L, [_, _], h1, h2⟩) ?_ σ1 ⟨L, hK, H1⟩).mono ?_
    · rintro i hi σ2 ⟨L2, hK2, H2⟩
      have hl2 := H2.all.1.1
      have hy := run_yield (P := P) (args := encs i) hl2 (by rw [hrec]; exact hps i hi)
      rw [hrec] at hy
      refine ⟨fn, _, assign, body, hy, roundIn_of_wpIn hfn ?_⟩
      refine wpIn_mono (hbody l D i (rec .ready none) { rec .ready none with state := .busy } hi σ2 L2 hK2 H2) ?_
      intro e a1 w1 hq
      cases e with
      | normal =>
        obtain ⟨σ3, L3, rfl, H3, hb⟩ := hq
        refine ⟨_, run_beginRound H3.all.1.1 (by rw [hrec]), ?_⟩
        have H4 := H3.setLp { rec .ready none with state := .busy }
        refine wpIn_mono (hb _ H4) ?_
        rintro e a3 w3 ⟨rfl, σ5, L5, rfl, hK5, H5⟩
        refine ⟨_, _, run_endRound none H5.all.1.1, rfl, σ5.put l (.loop (rec .ready none)), ?_, L5, hK5, H5.setLp _⟩
        rw [hrec]; rfl
      | ret => exact hq.elim
      | exit id => exact hq.elim
      | goto t => exact hq.elim
      | panic ch => exact hq.elim
      | outgrown => exact hq.elim
    · rintro e W2 ⟨⟨v, rfl⟩, σ2, rfl, L2, hK2, H2⟩
      refine ⟨none, _, ?_, hdone D _ L2 hK2 (H2.setLp { rec .ready none with state := .exhausted }).tail⟩
      have := run_endLoop (P := P) H2.all.1.1 (by rw [hrec]; simp)
      rw [hrec] at this ⊢
      exact this
end

theorem gidx_at {α : Type} {xs : List α} {i : Nat} (h : i < xs.length) : gidx xs (i : Int) = some xs[i] := by
  unfold gidx
  rw [if_pos (by omega)]
  simp [h]
noncomputable def M.coll {α : Type} (xs : List α) : Option (List α) := if xs.length ≤ 2147483648 then some xs else none
theorem coll_some {α : Type} {xs r : List α} (h : M.coll xs = some r) : xs.length ≤ 2147483648 ∧ r = xs := by
  unfold M.coll at h; split at h
  · exact ⟨by assumption, (Option.some.inj h).symm⟩
  · cases h
theorem take_gapp {α : Type} {xs : List α} {i : Nat} (h : i < xs.length) (hn : xs.length ≤ 2147483648) : gapp (xs.take i) [xs[i]] = some (xs.take (i + 1)) := by
  unfold gapp
  rw [if_pos (by simp; omega), List.take_succ_eq_append_getElem h]

/-! ## Into and out of functions with such a statement -/
section
variable {P : Program} {ops : Array Oper} {Q : Exit → Act → World → Prop} {n d : Nat} {ρ : Nat → Value} {σ σ0 : St} {w : World} {v : Value} {rest : List Oper} {r : Option Nat} {S0 : BS} {L : List Ch}
variable {op : Op} {ty : TypeId} {pos : String} {af : Array Edge}
def frd (n : Nat) (ds : List Deferred) (ρ : Nat → Value) : Act := { fr n ρ with defers := ds }
theorem frd_eval {ds : List Deferred} : (frd n ds ρ).eval = (fr n ρ).eval := by funext x; cases x <;> rfl
theorem frd_put {ds : List Deferred} : (frd n ds ρ).put (some d) v = frd n ds (upd ρ d v) := by
  have := fr_put n ρ d v
  unfold frd
  simp only [Act.put] at this ⊢
  rw [← this]
theorem stD {ds : List Deferred} (hnd : ∀ c, op ≠ .defer c) (hr : RunV P w.heap n ρ ⟨some d, op, ty, pos, af, none⟩ v) (k : wpListIn (Fz r) 0 P ops Q rest (frd n ds (upd ρ d v)) w) :
    wpListIn (Fz r) 0 P ops Q (⟨some d, op, ty, pos, af, none⟩ :: rest) (frd n ds ρ) w := by
  unfold wpListIn
  rw [if_pos (wanted_none _ rfl _)]
  refine ⟨fun _ _ => trivial, ?_⟩
  rw [Oper.semAt_eq _ _ _ hnd, frd_eval, fr_eval, hr w rfl]
  simp only [Oper.uponIn_value, frd_put]
  exact k
theorem endD {ds : List Deferred} (h : Q .normal (frd n ds ρ) w) : wpListIn (Fz r) 0 P ops Q [] (frd n ds ρ) w := h
theorem rgD {id : Nat} {l : List Oper} {ds : List Deferred} (h : wpListIn (Fz r) 0 P l.toArray Q l (frd n ds ρ) w) : (Code.region id l.toArray false).wpIn (Fz r) 0 P Q (frd n ds ρ) w := wpIn_region_lit h
theorem round_fr {p : Nat} : ({ tmps := (Array.zip #[p] #[v]).foldl (fun t (p, v) => t.setIfInBounds p v) (fr n ρ).tmps, defers := [] } : Act) = fr n (upd ρ p v) := by
  rw [← fr_put]
  have : (Array.zip #[p] #[v]) = #[(p, v)] := by simp
  simp [this, Act.put, fr]
theorem eg_of {f : FuncId} (hf : ∃ fn c, P.funcs[f]? = some fn ∧ (fn.name == "runtime.NumGoroutine") = false ∧ fn.body = some c) (args : Array Value) (w : World) : (callFunc f args).run P w = .ok (.enter f args) w := by
  obtain ⟨fn, c, h1, h2, h3⟩ := hf
  simp only [callFunc, Sem.run_bind, run_program, Result.andThen_ok, h1, h2, h3]
  simp
theorem enterI {f : FuncId} {fn : Func} {c : Code} {l : List Value} {R : Ending → World → Prop} (hf : P.funcs[f]? = some fn) (hb : fn.body = some c) (hn : fn.ntmps = n) (hl : Nat.ble l.length n = true)
    (h : c.wpIn (Fz none) 0 P (bodyPostM Fence.wide 0 P fn R) (fr n (argsρ l)) w) : CallsIn Fence.wide 0 P f l.toArray w R := by
  refine callsIn_of_wp_marks hf hb trivial ?_
  have := fr_args l n (by simpa using hl)
  simp only [List.size_toArray, hn, this]
  exact h
theorem fin_plain' {fn : Func} {R : Ending → World → Prop} (hr : (results fn (fr n ρ).tmps).run P w = .ok v w) (hp : R (.returned v) w) : bodyPostM Fence.wide 0 P fn R .normal (fr n ρ) w := ⟨v, hr, hp⟩
theorem fin_mark {fn : Func} {R : Ending → World → Prop} {D : Nat} (H : Hp S0 σ0 σ (Ch.df D :: L)) (hr : (results fn (fr n ρ).tmps).run P (σ.put D (.deferred none)).w = .ok v (σ.put D (.deferred none)).w) (hp : R (.returned v) (σ.put D (.deferred none)).w) :
    bodyPostM Fence.wide 0 P fn R .ret (frd n [{ target := .collected D, args := #[] }] ρ) σ.w :=
  ⟨by simp, .inl ⟨D, _, rfl, run_takeDeferred H.all.1.1, v, hr, hp⟩⟩
end
end Go.Vs

namespace Go.Vs
open Go

inductive Tr (α : Type) where
  | nil
  | node (x : α) (n : Int) (l r : Tr α)
def Tr.get {α : Type} : Tr α → Option (α × Int × Tr α × Tr α)
  | .nil => none
  | .node x n l r => some (x, n, l, r)
def Tr.isNil {α : Type} : Tr α → Bool
  | .nil => true
  | .node .. => false
def Tr.mk {α : Type} (p : α × Int × Tr α × Tr α) : Tr α := .node p.1 p.2.1 p.2.2.1 p.2.2.2
section
variable {α : Type} [Rp α]
def RT (lo : Nat) (σ : St) : Value → Tr α → Prop
  | v, .nil => v = .pointer none
  | v, .node x n l r => ∃ b o c vl vr, v = pt b o ∧ lo ≤ b ∧ o + (Rp.sz α + 3) ≤ σ.vis b ∧ Rp.rp lo σ c x ∧ RT lo σ vl l ∧ RT lo σ vr r ∧
      ∀ j, (h : j < (c ++ [I n, vl, vr]).length) → σ.cell b (o + j) = some (c ++ [I n, vl, vr])[j]

theorem RT.plain {lo : Nat} {σ : St} {v : Value} {t : Tr α} (h : RT lo σ v t) : plain v = true := by
  cases t with
  | nil => rw [show v = .pointer none from h]; rfl
  | node x n l r => obtain ⟨b, o, c, vl, vr, rfl, _⟩ := h; rfl
theorem RT.extL {lo : Nat} {σ σ' : St} (hE : ExtL lo σ σ') : ∀ {t : Tr α} {v : Value}, RT lo σ v t → RT lo σ' v t
  | .nil, _, h => h
  | .node x n l r, _, ⟨b, o, c, vl, vr, h1, h2, h3, h4, h5, h6, h7⟩ => by
    refine ⟨b, o, c, vl, vr, h1, h2, Nat.le_trans h3 (hE.vis b h2), Rp.extL hE h4, RT.extL hE h5, RT.extL hE h6, fun j hj => ?_⟩
    have hl : (c ++ [I n, vl, vr]).length = Rp.sz α + 3 := by rw [List.length_append, Rp.len h4]; rfl
    rw [hE.cell b _ h2 (by omega)]
    exact h7 j hj
theorem RT.low {lo lo' : Nat} {σ : St} (hl : lo' ≤ lo) : ∀ {t : Tr α} {v : Value}, RT lo σ v t → RT lo' σ v t
  | .nil, _, h => h
  | .node x n l r, _, ⟨b, o, c, vl, vr, h1, h2, h3, h4, h5, h6, h7⟩ => ⟨b, o, c, vl, vr, h1, Nat.le_trans hl h2, h3, Rp.low hl h4, RT.low hl h5, RT.low hl h6, h7⟩
instance : Rp (Tr α) where
  sz := 1
  rp lo σ cs t := ∃ v, cs = [v] ∧ RT lo σ v t
  pos := by decide
  len := by rintro _ _ _ _ ⟨v, rfl, _⟩; rfl
  extL := by rintro _ _ _ _ _ hE ⟨v, rfl, h⟩; exact ⟨v, rfl, h.extL hE⟩
  low := by rintro _ _ _ _ _ hl ⟨v, rfl, h⟩; exact ⟨v, rfl, h.low hl⟩
  one := by
    rintro _ _ _ _ ⟨v, rfl, h⟩ c hc
    simp only [List.mem_singleton] at hc
    rw [hc]; exact h.plain

theorem RT.at' {lo : Nat} {σ : St} {v : Value} {t : Tr α} {p : α × Int × Tr α × Tr α} (h : RT lo σ v t) (hp : t.get = some p) : ∃ b o, v = pt b o ∧ At lo σ b o p := by
  cases t with
  | nil => cases hp
  | node x n l r =>
    cases hp
    obtain ⟨b, o, c, vl, vr, h1, h2, h3, h4, h5, h6, h7⟩ := h
    exact ⟨b, o, h1, c ++ [I n, vl, vr], ⟨c, [I n, vl, vr], rfl, h4, [I n], [vl, vr], rfl, rfl, [vl], [vr], rfl, ⟨vl, rfl, h5⟩, ⟨vr, rfl, h6⟩⟩, h7⟩

theorem RT.ex {lo : Nat} {σ : St} {v : Value} {t : Tr α} {p : α × Int × Tr α × Tr α} (h : RT lo σ v t) (hp : t.get = some p) : ∃ b o, v = pt b o := by
  obtain ⟨b, o, h, _⟩ := h.at' hp
  exact ⟨b, o, h⟩
theorem RT.at {lo : Nat} {σ : St} {v : Value} {t : Tr α} {p : α × Int × Tr α × Tr α} {b o : Nat} (h : RT lo σ v t) (hp : t.get = some p) (hv : v = pt b o) : At lo σ b o p := by
  obtain ⟨b', o', h1, h2⟩ := h.at' hp
  rw [hv] at h1
  cases h1
  exact h2
theorem RT.hmd {S : BS} {lo : Nat} {σ σ' : St} {v u : Value} {t : Tr α} {p : α × Int × Tr α × Tr α} {b o : Nat} (h : RT lo σ v t) (hp : t.get = some p) (hv : v = pt b o) {k : Nat} (hk : k < Rp.sz α + 3)
    (hc : HCell σ.w.heap b (o + k) = some u) (m : Md S σ σ') : HCell σ'.w.heap b (o + k) = some u := by
  cases t with
  | nil => cases hp
  | node x n l r =>
    obtain ⟨b', o', c, vl, vr, h1, h2, h3, _⟩ := h
    rw [hv] at h1
    cases h1
    rw [HCell_eq] at hc ⊢
    exact (m.ext.cell b (o + k) (by omega)).trans hc
def Ch.pr (el : Nat) (v : Value) (t : Tr α) : Ch where
  dup := true
  fp _ := False
  as σ := RT el σ v t
  hdup _ _ := id
  hlt _ _ h := h.elim
  hst m _ h := RT.extL (m.ext.extL el) h
variable {S0 : BS} {σ0 σ : St} {L R : List Ch} {el lo b i : Nat} {v : Value} {t : Tr α} {cs : List Value}
theorem Hp.pr (H : Hp S0 σ0 σ L) (i : Nat) (h : nth L i = some (Ch.pr el v t)) : RT el σ v t := H.get h
end

section
variable {α : Type} [Rp α] {P : Program} {H : Array Obj} {n lo : Nat} {ρ : Nat → Value} {d : Option Nat} {ty T T' : TypeId} {pos : String} {af : Array Edge} {gd : Option (Nat × Bool)} {x y : Operand} {v : Value} {t : Tr α} {σ : St}
end
end Go.Vs
