/- Integers of other kinds, shifts, structs of numbers that are compared. -/
import Derived.Test.YtcgkbgidfilodaaVtIfc
import Derived.Laws.StructEq
set_option linter.unusedVariables false
set_option linter.unusedSimpArgs false
namespace Go.Vs
open Go

def wk (k : IntKind) (n : Int) : Int := k.wrap n
def gshl (k : IntKind) (x n : Int) : Int := k.wrap (x * 2 ^ (min n.toNat k.bits))
def gshr (k : IntKind) (x n : Int) : Int := x.fdiv (2 ^ (min n.toNat k.bits))
def gandk (k : IntKind) (a b : Int) : Int := k.wrap ((BitVec.ofInt k.bits a &&& BitVec.ofInt k.bits b).toNat)
def gork (k : IntKind) (a b : Int) : Int := k.wrap ((BitVec.ofInt k.bits a ||| BitVec.ofInt k.bits b).toNat)
def gxork (k : IntKind) (a b : Int) : Int := k.wrap ((BitVec.ofInt k.bits a ^^^ BitVec.ofInt k.bits b).toNat)
/-- A shift whose count must not be negative. -/
def gsh (n r : Int) : Option Int := if n < 0 then none else some r
theorem gsh_some {n r q : Int} (h : gsh n r = some q) : ¬ n < 0 ∧ q = r := by
  unfold gsh at h; split at h
  · cases h
  · exact ⟨by assumption, (Option.some.inj h).symm⟩

section
variable {P : Program} {H : Array Obj} {n : Nat} {ρ : Nat → Value} {dst : Option Nat} {ty T T' : TypeId} {pos : String} {af : Array Edge} {gd : Option (Nat × Bool)} {x y : Operand} {a b q : Int} {k k' : IntKind}
theorem rvk_add (hx : ev n ρ x = .int k a) (hy : ev n ρ y = .int k b) : RunV P H n ρ ⟨dst, .binOp .add T x y T', ty, pos, af, gd⟩ (.int k (wk k (a + b))) := fun w _ => by
  simp [execOp, hx, hy, eqGuard, binOp, Op.intArith, wk]
theorem rvk_sub (hx : ev n ρ x = .int k a) (hy : ev n ρ y = .int k b) : RunV P H n ρ ⟨dst, .binOp .sub T x y T', ty, pos, af, gd⟩ (.int k (wk k (a - b))) := fun w _ => by
  simp [execOp, hx, hy, eqGuard, binOp, Op.intArith, wk]
theorem rvk_mul (hx : ev n ρ x = .int k a) (hy : ev n ρ y = .int k b) : RunV P H n ρ ⟨dst, .binOp .mul T x y T', ty, pos, af, gd⟩ (.int k (wk k (a * b))) := fun w _ => by
  simp [execOp, hx, hy, eqGuard, binOp, Op.intArith, wk]
theorem rvk_and (hx : ev n ρ x = .int k a) (hy : ev n ρ y = .int k b) : RunV P H n ρ ⟨dst, .binOp .and T x y T', ty, pos, af, gd⟩ (.int k (gandk k a b)) := fun w _ => by
  simp only [execOp, hx, hy, eqGuard, binOp]; simp [Op.intBits, gandk]
theorem rvk_or (hx : ev n ρ x = .int k a) (hy : ev n ρ y = .int k b) : RunV P H n ρ ⟨dst, .binOp .or T x y T', ty, pos, af, gd⟩ (.int k (gork k a b)) := fun w _ => by
  simp only [execOp, hx, hy, eqGuard, binOp]; simp [Op.intBits, gork]
theorem rvk_xor (hx : ev n ρ x = .int k a) (hy : ev n ρ y = .int k b) : RunV P H n ρ ⟨dst, .binOp .xor T x y T', ty, pos, af, gd⟩ (.int k (gxork k a b)) := fun w _ => by
  simp only [execOp, hx, hy, eqGuard, binOp]; simp [Op.intBits, gxork]
theorem rvk_eql (hx : ev n ρ x = .int k a) (hy : ev n ρ y = .int k b) : RunV P H n ρ ⟨dst, .binOp .eql T x y T', ty, pos, af, gd⟩ (B (a == b)) := fun w _ => by
  simp [execOp, hx, hy, eqGuard, binOp, Op.intCmp]
theorem rvk_neq (hx : ev n ρ x = .int k a) (hy : ev n ρ y = .int k b) : RunV P H n ρ ⟨dst, .binOp .neq T x y T', ty, pos, af, gd⟩ (B (a != b)) := fun w _ => by
  simp [execOp, hx, hy, eqGuard, binOp, Op.intCmp]
theorem rvk_lss (hx : ev n ρ x = .int k a) (hy : ev n ρ y = .int k b) : RunV P H n ρ ⟨dst, .binOp .lss T x y T', ty, pos, af, gd⟩ (B (decide (a < b))) := fun w _ => by
  simp [execOp, hx, hy, eqGuard, binOp, Op.intCmp]
theorem rvk_leq (hx : ev n ρ x = .int k a) (hy : ev n ρ y = .int k b) : RunV P H n ρ ⟨dst, .binOp .leq T x y T', ty, pos, af, gd⟩ (B (decide (a ≤ b))) := fun w _ => by
  simp [execOp, hx, hy, eqGuard, binOp, Op.intCmp]
theorem rvk_gtr (hx : ev n ρ x = .int k a) (hy : ev n ρ y = .int k b) : RunV P H n ρ ⟨dst, .binOp .gtr T x y T', ty, pos, af, gd⟩ (B (decide (b < a))) := fun w _ => by
  simp [execOp, hx, hy, eqGuard, binOp, Op.intCmp]
theorem rvk_geq (hx : ev n ρ x = .int k a) (hy : ev n ρ y = .int k b) : RunV P H n ρ ⟨dst, .binOp .geq T x y T', ty, pos, af, gd⟩ (B (decide (b ≤ a))) := fun w _ => by
  simp [execOp, hx, hy, eqGuard, binOp, Op.intCmp]
theorem rvk_shl (hx : ev n ρ x = .int k a) (hy : ev n ρ y = .int k' b) (hb : ¬ b < 0) : RunV P H n ρ ⟨dst, .binOp .shl T x y T', ty, pos, af, gd⟩ (.int k (gshl k a b)) := fun w _ => by
  simp [execOp, hx, hy, eqGuard, binOp, Op.shift, gshl, hb]
theorem rvk_shr (hx : ev n ρ x = .int k a) (hy : ev n ρ y = .int k' b) (hb : ¬ b < 0) : RunV P H n ρ ⟨dst, .binOp .shr T x y T', ty, pos, af, gd⟩ (.int k (gshr k a b)) := fun w _ => by
  simp [execOp, hx, hy, eqGuard, binOp, Op.shift, gshr, hb]
theorem rvk_shlG (h : gsh b (gshl k a b) = some q) (hx : ev n ρ x = .int k a) (hy : ev n ρ y = .int k' b) : RunV P H n ρ ⟨dst, .binOp .shl T x y T', ty, pos, af, gd⟩ (.int k q) := by
  obtain ⟨h0, rfl⟩ := gsh_some h; exact rvk_shl hx hy h0
theorem rvk_shrG (h : gsh b (gshr k a b) = some q) (hx : ev n ρ x = .int k a) (hy : ev n ρ y = .int k' b) : RunV P H n ρ ⟨dst, .binOp .shr T x y T', ty, pos, af, gd⟩ (.int k q) := by
  obtain ⟨h0, rfl⟩ := gsh_some h; exact rvk_shr hx hy h0
theorem rvk_conv (hT : P.underlying T = some (.int k)) (hT' : P.underlying T' = some (.int k')) (hx : ev n ρ x = .int k a) : RunV P H n ρ ⟨dst, .convert T T' x, ty, pos, af, gd⟩ (.int k' (wk k' a)) := fun w _ => by
  simp [execOp, hx, convert, underlying, hT, hT', Conv.intToInt, wk]
theorem gmake_len {α : Type} {k : Int} {z0 : α} {xs : List α} (h : gmake k z0 = some xs) : xs.length = k.toNat := by
  unfold gmake at h; split at h
  · cases h; exact List.length_replicate
  · cases h
theorem rv_cap {E : TypeId} {m c c' : Nat} {ad : Option Addr} (hT : P.underlying T = some (.slice E)) (hx : ev n ρ x = .slice ad m c) (hc : c = c') : RunV P H n ρ ⟨dst, .call ⟨.builtin .cap, #[x], #[T]⟩, ty, pos, af, gd⟩ (I c') := fun w _ => by
  subst hc
  simp [execOp, resolve, invoke, builtin, Builtin.cap_, hx, underlying, hT, goInt]
theorem rv_field {fs : Array Field} {kf off ft : Nat} {cs : Array Value} {v : Value} {D : TypeDesc} (hT : P.underlying T = some (.struct fs)) (hf : (fs[kf]?).map (fun f => (f.offset, f.type)) = some (off, ft)) (hE : P.underlying ft = some D) (hD : (match D with | .struct _ => false | .array _ _ => false | _ => true) = true)
    (hx : ev n ρ x = .agg cs) (hv : cs[off]? = some v) : RunV P H n ρ ⟨dst, .field T x kf, ty, pos, af, gd⟩ v := fun w _ => by
  cases hfk : fs[kf]? with
  | none => rw [hfk] at hf; cases hf
  | some f =>
    rw [hfk] at hf
    simp only [Option.map_some, Option.some.injEq, Prod.mk.injEq] at hf
    obtain ⟨rfl, rfl⟩ := hf
    have hag : (isAgg f.type).run P w = .ok false w := by
      simp only [isAgg, underlying, Sem.run_bind, run_program, Result.andThen_ok, hE, Sem.run_pure]
      cases D <;> simp_all
    simp [execOp, hx, Instr.field, underlying, hT, hfk, asAgg, part, hag, hv]
/-- A slice against nil. -/
theorem rv_nilS {E : TypeId} {m : Nat} {ad : Option Addr} {c : Nat} (hT : P.underlying T = some (.slice E)) (hx : ev n ρ x = .slice ad m c) (hy : ev n ρ y = .slice none 0 0) : RunV P H n ρ ⟨dst, .binOp .eql T x y T', ty, pos, af, gd⟩ (B ad.isNone) := fun w _ => by
  have h : ∀ a : Option Addr, (Op.equal T (.slice a m c) (.slice none 0 0)).run P w = .ok a.isNone w := by
    intro a
    show (Op.equalIn (9999 + 1) T _ _).run P w = _
    rw [Op.equalIn]
    cases a <;> simp only [underlying, Sem.run_bind, run_program, Result.andThen_ok, hT, Sem.run_pure, Option.isNone]
  simp [execOp, hx, hy, eqGuard, binOp, h]

theorem part_int {t j : Nat} {xs : Array Value} {u : Value} (ht : P.underlying t = some (.int .i64)) (w : World) (h : xs[j]? = some u) : (part t xs j).run P w = .ok u w := by
  have hag : (isAgg t).run P w = .ok false w := by
    simp only [isAgg, underlying, Sem.run_bind, run_program, Result.andThen_ok, ht, Sem.run_pure]
  simp [part, hag, h]
/-- The fields of a struct of numbers. -/
def IntFs (P : Program) : Nat → List Field → Prop
  | _, [] => True
  | j, f :: fs => f.offset = j ∧ (f.name ≠ "_") ∧ P.underlying f.type = some (.int .i64) ∧ IntFs P (j + 1) fs
theorem run_eqInts {d : Nat} (w : World) : ∀ (fs : List Field) (j : Nat) (xs ys : List Int), xs.length = ys.length → j + fs.length = xs.length → IntFs P j fs →
    (Op.eqFields (d + 1) (xs.map I).toArray (ys.map I).toArray fs).run P w = .ok (xs.drop j == ys.drop j) w
  | [], j, xs, ys, hl, hj, _ => by
    have e1 : xs.drop j = [] := List.drop_eq_nil_of_le (by simp at hj; omega)
    have e2 : ys.drop j = [] := List.drop_eq_nil_of_le (by simp at hj; omega)
    rw [e1, e2]; rfl
  | f :: fs, j, xs, ys, hl, hj, ⟨h1, h2, h3, h5⟩ => by
    simp only [List.length_cons] at hj
    have ih := run_eqInts (d := d) w fs (j + 1) xs ys hl (by omega) h5
    have hjx : j < xs.length := by omega
    have hjy : j < ys.length := by omega
    have p1 := part_int (P := P) h3 (xs := (xs.map I).toArray) (u := I xs[j]) (j := f.offset) w (by simp [h1, hjx])
    have p2 := part_int (P := P) h3 (xs := (ys.map I).toArray) (u := I ys[j]) (j := f.offset) w (by simp [h1, hjy])
    have p3 : (Op.equalIn (d + 1) f.type (I xs[j]) (I ys[j])).run P w = .ok (xs[j] == ys[j]) w := by
      rw [Op.equalIn]
      simp only [underlying, Sem.run_bind, run_program, Result.andThen_ok, h3, Sem.run_pure, if_true]
    rw [List.drop_eq_getElem_cons hjx, List.drop_eq_getElem_cons hjy, List.cons_beq_cons]
    simp only [Op.eqFields, ne_eq, h2, not_false_eq_true, if_true, Sem.run_bind, p1, p2, p3, Result.andThen_ok]
    cases hb : xs[j] == ys[j] with
    | true => simp only [Bool.not_true, Bool.false_eq_true, if_false, ih, Bool.true_and]
    | false => simp only [Bool.not_false, if_true, Bool.false_and]; rfl
theorem rv_eqlI {xs ys : List Int} (hT : P.underlying T = some (.struct (P.fieldsOf T))) (hg : P.eqGuardType P.depth T = false) (hp : P.stoodInHeld T = false) (hl : xs.length = ys.length) (hj : (P.fieldsOf T).toList.length = xs.length) (hf : IntFs P 0 (P.fieldsOf T).toList)
    (hx : ev n ρ x = .agg (xs.map I).toArray) (hy : ev n ρ y = .agg (ys.map I).toArray) : RunV P H n ρ ⟨dst, .binOp .eql T x y T', ty, pos, af, gd⟩ (B (xs == ys)) := fun w _ => by
  have e := run_eqInts (P := P) (d := 9998) w (P.fieldsOf T).toList 0 xs ys hl (by omega) hf
  simp only [execOp, hx, hy, Sem.run_bind, run_eqGuard_agg w _ _ _ _ _ _ hg, Result.andThen_ok, run_eql_struct, show (10000 : Nat) = 9999 + 1 from rfl, run_equalIn_agg w 9999 T _ _ hT hp, show (9999 : Nat) = 9998 + 1 from rfl, e, List.drop_zero, Sem.run_pure]
theorem rv_neqI {xs ys : List Int} (hT : P.underlying T = some (.struct (P.fieldsOf T))) (hg : P.eqGuardType P.depth T = false) (hp : P.stoodInHeld T = false) (hl : xs.length = ys.length) (hj : (P.fieldsOf T).toList.length = xs.length) (hf : IntFs P 0 (P.fieldsOf T).toList)
    (hx : ev n ρ x = .agg (xs.map I).toArray) (hy : ev n ρ y = .agg (ys.map I).toArray) : RunV P H n ρ ⟨dst, .binOp .neq T x y T', ty, pos, af, gd⟩ (B (!(xs == ys))) := fun w _ => by
  have e := run_eqInts (P := P) (d := 9998) w (P.fieldsOf T).toList 0 xs ys hl (by omega) hf
  simp only [execOp, hx, hy, Sem.run_bind, run_eqGuard_agg w _ _ _ _ _ _ hg, Result.andThen_ok, run_neq_struct, show (10000 : Nat) = 9999 + 1 from rfl, run_equalIn_agg w 9999 T _ _ hT hp, show (9999 : Nat) = 9998 + 1 from rfl, e, List.drop_zero, Sem.run_pure]
end
section
variable {S0 : BS} {σ0 σ : St} {L : List Ch} {lo b o i : Nat} {pre suf : List Value}
/-- A nil slice has nothing in it. -/
theorem RS.nilOf {α : Type} [Rp α] {el : Nat} {ad : Option Addr} {c : Nat} {xs : List α} (hn : ad.isNone = true) (h : RS el σ (Sl ad xs c) xs) : xs = [] := by
  rcases h with ⟨_, h⟩ | ⟨b, o, c, hv, _⟩
  · exact h
  · cases hv; cases hn
theorem plain_ints (xs : List Int) : ∀ u ∈ List.map I xs, plain u = true := by
  intro u hu
  obtain ⟨x, _, rfl⟩ := List.mem_map.1 hu
  rfl
theorem arr_set' (xs : List Int) (k : Nat) (v : Int) : wrL (xs.map I) (k * 1) [I v] = (xs.set k v).map I := by
  have := arr_set xs k v
  rw [Nat.zero_add] at this; exact this
/-- An element of an array in a box. -/
theorem Hp.arrCell {xs : List Int} {a x : Int} (H : Hp S0 σ0 σ L) (i : Nat) (h : nth L i = some (Ch.bx lo b o (xs.map I) pre suf)) (hx : gidx xs a = some x) : HCell σ.w.heap b (o + a.toNat * 1) = some (I x) := by
  obtain ⟨h0, h1, h2⟩ := gidx_some hx
  rw [Nat.mul_one]
  exact bx_at (H.bx i h) (by simp [h1, h2])
end
end Go.Vs
