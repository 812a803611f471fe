/- One law for each kind of operation. -/
import Derived.Test.YtcgkbgidfilodaaVsBase
set_option linter.unusedVariables false
set_option linter.unusedSimpArgs false
namespace Go.Vs
open Go

abbrev I (n : Int) : Value := .int .i64 n
abbrev B (b : Bool) : Value := .bool b
/-- What an int of 64 bits holds of a number. -/
def w64 (n : Int) : Int := IntKind.i64.wrap n
theorem w64_id {n : Int} (h1 : -9223372036854775808 ≤ n) (h2 : n ≤ 9223372036854775807) : w64 n = n := by
  simp only [w64, IntKind.wrap, IntKind.bits, IntKind.signed, Bool.true_and, decide_eq_true_eq, ge_iff_le]
  have e1 : ((2 : Int) ^ (64 : Nat)) = 18446744073709551616 := by decide
  have e2 : ((2 : Int) ^ (64 - 1 : Nat)) = 9223372036854775808 := by decide
  rw [e1, e2]
  split <;> omega
theorem w64_range (n : Int) : -9223372036854775808 ≤ w64 n ∧ w64 n ≤ 9223372036854775807 := by
  simp only [w64, IntKind.wrap, IntKind.bits, IntKind.signed, Bool.true_and, decide_eq_true_eq, ge_iff_le]
  have e1 : ((2 : Int) ^ (64 : Nat)) = 18446744073709551616 := by decide
  have e2 : ((2 : Int) ^ (64 - 1 : Nat)) = 9223372036854775808 := by decide
  rw [e1, e2]
  split <;> omega
def gand (a b : Int) : Int := IntKind.i64.wrap ((BitVec.ofInt 64 a &&& BitVec.ofInt 64 b).toNat)
def gor (a b : Int) : Int := IntKind.i64.wrap ((BitVec.ofInt 64 a ||| BitVec.ofInt 64 b).toNat)
def gxor (a b : Int) : Int := IntKind.i64.wrap ((BitVec.ofInt 64 a ^^^ BitVec.ofInt 64 b).toNat)
def gandnot (a b : Int) : Int := IntKind.i64.wrap ((BitVec.ofInt 64 a &&& ~~~BitVec.ofInt 64 b).toNat)

/-- What is asked of a type: its zero, its cells, its bytes. -/
structure TI (P : Program) (t : TypeId) (z : Value) (s b : Nat) : Prop where
  it : ∃ i, P.info? t = some i ∧ i.zero = some z ∧ i.size = s ∧ i.bytes = b
theorem TI.mk' {P : Program} {t : TypeId} {z : Value} {s b : Nat} (h : (P.info? t).map (fun i => (i.zero, i.size, i.bytes)) = some (some z, s, b)) : TI P t z s b := by
  cases e : P.info? t with
  | none => rw [e] at h; simp at h
  | some i =>
    rw [e] at h
    simp only [Option.map_some, Option.some.injEq, Prod.mk.injEq] at h
    exact ⟨i, e, h.1, h.2.1, h.2.2⟩

section
variable {P : Program} {H : Array Obj} {n : Nat} {ρ : Nat → Value} {d : Option Nat} {ty T T' : TypeId} {pos : String} {af : Array Edge} {gd : Option (Nat × Bool)} {x y c : Operand} {v u : Value} {a b : Int} {p q r : Bool}

theorem rv_move (h : ev n ρ x = v) : RunV P H n ρ ⟨d, .move x, ty, pos, af, gd⟩ v := fun w _ => by simp [execOp, h]
theorem rv_assign (h : ev n ρ x = v) : RunV P H n ρ ⟨d, .assign x, ty, pos, af, gd⟩ v := fun w _ => by simp [execOp, h]
theorem rv_pick_t (hc : ev n ρ c = B true) (h : ev n ρ x = v) : RunV P H n ρ ⟨d, .pick c x y, ty, pos, af, gd⟩ v := fun w _ => by simp [execOp, h, hc, asBool]
theorem rv_pick_f (hc : ev n ρ c = B false) (h : ev n ρ y = v) : RunV P H n ρ ⟨d, .pick c x y, ty, pos, af, gd⟩ v := fun w _ => by simp [execOp, h, hc, asBool]
theorem rv_pick_b (hc : ev n ρ c = B p) (h : ev n ρ x = B q) (h' : ev n ρ y = B r) : RunV P H n ρ ⟨d, .pick c x y, ty, pos, af, gd⟩ (B (bif p then q else r)) := fun w _ => by
  cases p <;> simp [execOp, h, h', hc, asBool]

theorem rv_add (hx : ev n ρ x = I a) (hy : ev n ρ y = I b) : RunV P H n ρ ⟨d, .binOp .add T x y T', ty, pos, af, gd⟩ (I (w64 (a + b))) := fun w _ => by
  simp [execOp, hx, hy, eqGuard, binOp, Op.intArith, w64]
theorem rv_sub (hx : ev n ρ x = I a) (hy : ev n ρ y = I b) : RunV P H n ρ ⟨d, .binOp .sub T x y T', ty, pos, af, gd⟩ (I (w64 (a - b))) := fun w _ => by
  simp [execOp, hx, hy, eqGuard, binOp, Op.intArith, w64]
theorem rv_mul (hx : ev n ρ x = I a) (hy : ev n ρ y = I b) : RunV P H n ρ ⟨d, .binOp .mul T x y T', ty, pos, af, gd⟩ (I (w64 (a * b))) := fun w _ => by
  simp [execOp, hx, hy, eqGuard, binOp, Op.intArith, w64]
theorem rv_quo (hx : ev n ρ x = I a) (hy : ev n ρ y = I b) (h0 : b ≠ 0) : RunV P H n ρ ⟨d, .binOp .quo T x y T', ty, pos, af, gd⟩ (I (w64 (a.tdiv b))) := fun w _ => by
  simp [execOp, hx, hy, eqGuard, binOp, Op.intDiv, w64, h0]
theorem rv_rem (hx : ev n ρ x = I a) (hy : ev n ρ y = I b) (h0 : b ≠ 0) : RunV P H n ρ ⟨d, .binOp .rem T x y T', ty, pos, af, gd⟩ (I (a.tmod b)) := fun w _ => by
  simp [execOp, hx, hy, eqGuard, binOp, Op.intDiv, h0]
theorem rv_and (hx : ev n ρ x = I a) (hy : ev n ρ y = I b) : RunV P H n ρ ⟨d, .binOp .and T x y T', ty, pos, af, gd⟩ (I (gand a b)) := fun w _ => by
  simp only [execOp, hx, hy, eqGuard, binOp]; rfl
theorem rv_or (hx : ev n ρ x = I a) (hy : ev n ρ y = I b) : RunV P H n ρ ⟨d, .binOp .or T x y T', ty, pos, af, gd⟩ (I (gor a b)) := fun w _ => by
  simp only [execOp, hx, hy, eqGuard, binOp]; rfl
theorem rv_xor (hx : ev n ρ x = I a) (hy : ev n ρ y = I b) : RunV P H n ρ ⟨d, .binOp .xor T x y T', ty, pos, af, gd⟩ (I (gxor a b)) := fun w _ => by
  simp only [execOp, hx, hy, eqGuard, binOp]; rfl
theorem rv_andnot (hx : ev n ρ x = I a) (hy : ev n ρ y = I b) : RunV P H n ρ ⟨d, .binOp .andNot T x y T', ty, pos, af, gd⟩ (I (gandnot a b)) := fun w _ => by
  simp only [execOp, hx, hy, eqGuard, binOp]; rfl
theorem rv_eql (hx : ev n ρ x = I a) (hy : ev n ρ y = I b) : RunV P H n ρ ⟨d, .binOp .eql T x y T', ty, pos, af, gd⟩ (B (a == b)) := fun w _ => by
  simp [execOp, hx, hy, eqGuard, binOp, Op.intCmp]
theorem rv_neq (hx : ev n ρ x = I a) (hy : ev n ρ y = I b) : RunV P H n ρ ⟨d, .binOp .neq T x y T', ty, pos, af, gd⟩ (B (a != b)) := fun w _ => by
  simp [execOp, hx, hy, eqGuard, binOp, Op.intCmp]
theorem rv_lss (hx : ev n ρ x = I a) (hy : ev n ρ y = I b) : RunV P H n ρ ⟨d, .binOp .lss T x y T', ty, pos, af, gd⟩ (B (decide (a < b))) := fun w _ => by
  simp [execOp, hx, hy, eqGuard, binOp, Op.intCmp]
theorem rv_leq (hx : ev n ρ x = I a) (hy : ev n ρ y = I b) : RunV P H n ρ ⟨d, .binOp .leq T x y T', ty, pos, af, gd⟩ (B (decide (a ≤ b))) := fun w _ => by
  simp [execOp, hx, hy, eqGuard, binOp, Op.intCmp]
theorem rv_gtr (hx : ev n ρ x = I a) (hy : ev n ρ y = I b) : RunV P H n ρ ⟨d, .binOp .gtr T x y T', ty, pos, af, gd⟩ (B (decide (b < a))) := fun w _ => by
  simp [execOp, hx, hy, eqGuard, binOp, Op.intCmp]
theorem rv_geq (hx : ev n ρ x = I a) (hy : ev n ρ y = I b) : RunV P H n ρ ⟨d, .binOp .geq T x y T', ty, pos, af, gd⟩ (B (decide (b ≤ a))) := fun w _ => by
  simp [execOp, hx, hy, eqGuard, binOp, Op.intCmp]
theorem run_equal_bool (hT : P.underlying T = some .bool) (w : World) : (Op.equal T (B p) (B q)).run P w = .ok (p == q) w := by
  show (Op.equalIn (9999 + 1) T (B p) (B q)).run P w = _
  rw [Op.equalIn]
  simp only [underlying, Sem.run_bind, run_program, Result.andThen_ok, hT, Sem.run_pure]
theorem rv_beql (hT : P.underlying T = some .bool) (hx : ev n ρ x = B p) (hy : ev n ρ y = B q) : RunV P H n ρ ⟨d, .binOp .eql T x y T', ty, pos, af, gd⟩ (B (p == q)) := fun w _ => by
  simp [execOp, hx, hy, eqGuard, binOp, run_equal_bool hT]
theorem rv_bneq (hT : P.underlying T = some .bool) (hx : ev n ρ x = B p) (hy : ev n ρ y = B q) : RunV P H n ρ ⟨d, .binOp .neq T x y T', ty, pos, af, gd⟩ (B (p != q)) := fun w _ => by
  simp [execOp, hx, hy, eqGuard, binOp, run_equal_bool hT, bne]
theorem rv_neg (hx : ev n ρ x = I a) : RunV P H n ρ ⟨d, .unOp .neg T x, ty, pos, af, gd⟩ (I (w64 (0 - a))) := fun w _ => by
  simp [execOp, hx, Op.unary, Op.intArith, w64]
theorem rv_not (hx : ev n ρ x = B p) : RunV P H n ρ ⟨d, .unOp .not T x, ty, pos, af, gd⟩ (B (!p)) := fun w _ => by
  simp [execOp, hx, Op.unary]
theorem rv_conv {k : IntKind} (hT : P.underlying T = some (.int k)) (hT' : P.underlying T' = some (.int .i64)) (hx : ev n ρ x = .int k a) : RunV P H n ρ ⟨d, .convert T T' x, ty, pos, af, gd⟩ (I (w64 a)) := fun w _ => by
  simp [execOp, hx, convert, underlying, hT, hT', Conv.intToInt, w64]
theorem rv_extract {vs : Array Value} {k : Nat} (hx : ev n ρ x = .tuple vs) (hv : vs[k]? = some v) : RunV P H n ρ ⟨d, .extract x k, ty, pos, af, gd⟩ v := fun w _ => by
  simp [execOp, hx, Instr.extract, hv]
theorem rv_nilCheck {ad : Addr} (hx : ev n ρ x = .pointer (some ad)) : RunV P H n ρ ⟨d, .nilCheck x, ty, pos, af, gd⟩ (.pointer (some ad)) := fun w _ => by
  simp [execOp, hx]
theorem rv_len {m : Nat} {E : TypeId} {ad : Option Addr} {cp : Nat} (hT : P.underlying T = some (.slice E)) (hx : ev n ρ x = .slice ad m cp) :
    RunV P H n ρ ⟨d, .call ⟨.builtin .len, #[x], #[T]⟩, ty, pos, af, gd⟩ (I m) := fun w _ => by
  simp [execOp, resolve, invoke, builtin, Builtin.len_, hx, underlying, hT, goInt]
theorem rv_max (hx : ev n ρ x = I a) (hy : ev n ρ y = I b) : RunV P H n ρ ⟨d, .call ⟨.builtin .max, #[x, y], #[T, T']⟩, ty, pos, af, gd⟩ (I (max a b)) := fun w _ => by
  simp [execOp, resolve, invoke, builtin, Builtin.max_, Builtin.max2, hx, hy]; split <;> omega
theorem rv_min (hx : ev n ρ x = I a) (hy : ev n ρ y = I b) : RunV P H n ρ ⟨d, .call ⟨.builtin .min, #[x, y], #[T, T']⟩, ty, pos, af, gd⟩ (I (min a b)) := fun w _ => by
  simp [execOp, resolve, invoke, builtin, Builtin.min_, Builtin.min2, hx, hy]; split <;> omega

/-- An address in a block, plainly. -/
abbrev pt (bl o : Nat) : Value := .pointer (some ⟨bl, o, none⟩)
theorem add_plain (bl o k : Nat) : (⟨bl, o, none⟩ : Addr).add k = ⟨bl, o + k, none⟩ := by
  unfold Addr.add; split <;> simp_all

theorem run_typeInfo {t : TypeId} {z : Value} {s bt : Nat} (h : TI P t z s bt) (w : World) : (sizeOf t).run P w = .ok s w := by
  obtain ⟨i, h1, h2, h3, h4⟩ := h.it
  simp [sizeOf, typeInfo, h1, h3]
theorem run_zero {t : TypeId} {z : Value} {s bt : Nat} (h : TI P t z s bt) (w : World) : (zeroValue t).run P w = .ok z w := by
  obtain ⟨i, h1, h2, h3, h4⟩ := h.it
  simp [zeroValue, typeInfo, h1, h2]

theorem rv_fieldAddr {fs : Array Field} {k bl o off ft : Nat} {z : Value} {s bt : Nat} (hT : P.underlying T = some (.struct fs)) (hf : (fs[k]?).map (fun f => (f.offset, f.type)) = some (off, ft))
    (hi : TI P ft z s bt) (hs : Nat.beq s 0 = false) (hx : ev n ρ x = pt bl o) : RunV P H n ρ ⟨d, .fieldAddr T x k, ty, pos, af, gd⟩ (pt bl (o + off)) := fun w _ => by
  cases hfk : fs[k]? with
  | none => rw [hfk] at hf; cases hf
  | some f =>
    rw [hfk] at hf
    simp only [Option.map_some, Option.some.injEq, Prod.mk.injEq] at hf
    obtain ⟨rfl, rfl⟩ := hf
    have hs' : s ≠ 0 := by rintro rfl; cases hs
    simp [execOp, hx, Instr.fieldAt, underlying, hT, hfk, Instr.sureAddr, fieldPlace, run_typeInfo hi, hs', add_plain]

/-- An array's element, out of the array as a value. -/
theorem rv_index_arr {E m : Nat} {xs : List Int} {e : Int} {z : Value} {bt : Nat} (hT : P.underlying T = some (.array m E)) (hi : TI P E z 1 bt) (hE : P.underlying E = some (.int .i64))
    (hx : ev n ρ x = .agg (xs.map I).toArray) (hy : ev n ρ y = I a) (h0 : 0 ≤ a) (h1 : a.toNat < m) (he : xs[a.toNat]? = some e) : RunV P H n ρ ⟨d, .index T x y, ty, pos, af, gd⟩ (I e) := fun w _ => by
  have h2 : a < (m : Int) := by omega
  have hag : (isAgg E).run P w = .ok false w := by
    simp only [isAgg, underlying, Sem.run_bind, run_program, Result.andThen_ok, hE, Sem.run_pure]
  simp [execOp, hx, hy, Instr.index, asIntOf, underlying, hT, h0, h2, run_typeInfo hi, part, hag, he]

theorem rv_indexAddr_slice {E : TypeId} {bl o m cp : Nat} {z : Value} {s bt : Nat} (hT : P.underlying T = some (.slice E)) (hi : TI P E z s bt)
    (hx : ev n ρ x = .slice (some ⟨bl, o, none⟩) m cp) (hy : ev n ρ y = I a) (h0 : 0 ≤ a) (h1 : a.toNat < m) :
    RunV P H n ρ ⟨d, .indexAddr T x y, ty, pos, af, gd⟩ (pt bl (o + a.toNat * s)) := fun w _ => by
  have h2 : a < (m : Int) := by omega
  simp [execOp, hx, hy, Instr.indexAt, asIntOf, underlying, hT, h0, h2, run_typeInfo hi, add_plain]

theorem rv_indexAddr_array {E : TypeId} {bl o m : Nat} {z : Value} {s bt : Nat} (hT : P.underlying T = some (.array m E)) (hi : TI P E z s bt)
    (hx : ev n ρ x = pt bl o) (hy : ev n ρ y = I a) (h0 : 0 ≤ a) (h1 : a.toNat < m) :
    RunV P H n ρ ⟨d, .indexAddr T x y, ty, pos, af, gd⟩ (pt bl (o + a.toNat * s)) := fun w _ => by
  have h2 : a < (m : Int) := by omega
  simp [execOp, hx, hy, Instr.indexAt, asIntOf, underlying, hT, h0, h2, run_typeInfo hi, add_plain, Instr.sureAddr]

def HCell (H : Array Obj) (b o : Nat) : Option Value := match H[b]? with
  | some (.cells c _ _) => c[o]?
  | _ => none
theorem HCell_eq (w : World) (b o : Nat) : HCell w.heap b o = w.cell? ⟨b, o, none⟩ := by
  unfold HCell World.cell?
  cases h : w.heap[b]? with
  | none => rfl
  | some ob => cases ob <;> rfl

/-- A load of one cell. -/
theorem rv_load1 {bl o : Nat} {D : TypeDesc} (hT : P.underlying T = some D) (hD : (match D with | .struct _ => false | .array _ _ => false | _ => true) = true)
    (hx : ev n ρ x = pt bl o) (hc : HCell H bl o = some v) : RunV P H n ρ ⟨d, .load T x, ty, pos, af, gd⟩ v := fun w hw => by
  subst hw
  rw [HCell_eq] at hc
  have : (isAgg T).run P w = .ok false w := by
    simp only [isAgg, underlying, Sem.run_bind, run_program, Result.andThen_ok, hT, Sem.run_pure]
    cases D <;> simp_all
  simp [execOp, hx, Instr.loadAt, Instr.sureAddr, loadVar, this, load, Sem.run, hc]

theorem run_loadCellsFrom (w : World) (bl o : Nat) : ∀ (k i : Nat) (cs acc : List Value), cs.length = k → (∀ j, (h : j < cs.length) → w.cell? ⟨bl, o + (i + j), none⟩ = some cs[j]) →
    (loadCellsFrom ⟨bl, o, none⟩ i k acc.toArray).run P w = .ok (acc ++ cs).toArray w
  | 0, i, cs, acc, hk, _ => by
    have : cs = [] := List.eq_nil_of_length_eq_zero hk
    subst this; simp [loadCellsFrom]
  | k + 1, i, [], acc, hk, _ => by simp at hk
  | k + 1, i, c :: cs, acc, hk, hc => by
    have h0 := hc 0 (by simp)
    simp only [Nat.add_zero, List.getElem_cons_zero] at h0
    have ih := run_loadCellsFrom w bl o k (i + 1) cs (acc ++ [c]) (by simpa using hk) (fun j hj => by
      have := hc (j + 1) (by simpa using hj)
      simpa [Nat.add_assoc, Nat.add_comm 1 j] using this)
    simp only [loadCellsFrom, Sem.run_bind, load, add_plain, Sem.run, h0, Result.andThen_ok]
    have e : acc.toArray.push c = (acc ++ [c]).toArray := by simp
    rw [e, ih]; simp

/-- A load of a struct or an array. -/
theorem rv_load {bl o : Nat} {D : TypeDesc} {cs : List Value} {z : Value} {s bt : Nat} (hT : P.underlying T = some D) (hD : (match D with | .struct _ => false | .array _ _ => false | _ => true) = false)
    (hi : TI P T z s bt) (hx : ev n ρ x = pt bl o) (hl : cs.length = s) (hc : ∀ j, (h : j < cs.length) → HCell H bl (o + j) = some cs[j]) : RunV P H n ρ ⟨d, .load T x, ty, pos, af, gd⟩ (.agg cs.toArray) := fun w hw => by
  subst hw
  have : (isAgg T).run P w = .ok true w := by
    simp only [isAgg, underlying, Sem.run_bind, run_program, Result.andThen_ok, hT, Sem.run_pure]
    cases D <;> simp_all
  have := run_loadCellsFrom (P := P) w bl o s 0 cs [] hl (fun j hj => by rw [← HCell_eq]; simpa using hc j hj)
  simp [execOp, Instr.loadAt, Instr.sureAddr, loadVar, *, loadCells, run_typeInfo hi]
end
end Go.Vs
