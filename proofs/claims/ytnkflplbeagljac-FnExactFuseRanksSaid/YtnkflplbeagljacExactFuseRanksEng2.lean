/- What a function of the program does to its memory, step by step. -/
import Derived.Test.YtnkflplbeagljacExactFuseRanksEng1
import Derived.RangeFuncLeaves
import Derived.RangeFuncSeq
import Derived.TacticsIn
import Derived.Sort.LoopGhostIn
import Derived.Maps.RangeRun
set_option linter.unusedVariables false
set_option linter.unusedSimpArgs false
namespace Go.Vs
open Go

/-- The fence that lets everything in: outside of rounds, or in one. -/
abbrev Fz (r : Option Nat) : Fence := { Fence.wide with round := r }

section
variable {P : Program} {ops : Array Oper} {Q : Exit → Act → World → Prop} {n d : Nat} {ρ : Nat → Value} {σ σ0 : St} {w : World} {v : Value} {rest : List Oper} {r : Option Nat}
variable {op : Op} {ty : TypeId} {pos : String} {af : Array Edge} {gd : Option (Nat × Bool)}

theorem stI (hnd : ∀ c, op ≠ .defer c) (hr : RunV P w.heap n ρ ⟨some d, op, ty, pos, af, none⟩ v) (k : wpListIn (Fz r) 0 P ops Q rest (fr n (upd ρ d v)) w) :
    wpListIn (Fz r) 0 P ops Q (⟨some d, op, ty, pos, af, none⟩ :: rest) (fr n ρ) w := by
  unfold wpListIn
  rw [if_pos (by rw [yielded_fr]; exact wanted_none _ rfl _)]
  refine ⟨fun _ _ => trivial, ?_⟩
  rw [Oper.semAt_eq _ _ _ hnd, fr_eval, hr w rfl]
  simp only [Oper.uponIn_value, fr_put]
  exact k
theorem stI_ex {Rz : Value → St → Prop} (hnd : ∀ c, op ≠ .defer c) (he : Ex P σ n ρ ⟨some d, op, ty, pos, af, none⟩ Rz)
    (k : ∀ v (σ' : St), Rz v σ' → wpListIn (Fz r) 0 P ops Q rest (fr n (upd ρ d v)) σ'.w) : wpListIn (Fz r) 0 P ops Q (⟨some d, op, ty, pos, af, none⟩ :: rest) (fr n ρ) σ.w := by
  obtain ⟨v, σ', h1, h2⟩ := he
  unfold wpListIn
  rw [if_pos (by rw [yielded_fr]; exact wanted_none _ rfl _)]
  refine ⟨fun _ _ => trivial, ?_⟩
  have h1' : (execOp (ev n ρ) ⟨some d, op, ty, pos, af, none⟩).run P σ.w = .ok (.value v) σ'.w := h1
  rw [Oper.semAt_eq _ _ _ hnd, fr_eval, h1']
  simp only [Oper.uponIn_value, fr_put]
  exact k v σ' h2
theorem stI_exS {Rs : St → Prop} (hnd : ∀ c, op ≠ .defer c) (he : ExS P σ n ρ ⟨none, op, ty, pos, af, none⟩ Rs)
    (k : ∀ (σ' : St), Rs σ' → wpListIn (Fz r) 0 P ops Q rest (fr n ρ) σ'.w) : wpListIn (Fz r) 0 P ops Q (⟨none, op, ty, pos, af, none⟩ :: rest) (fr n ρ) σ.w := by
  obtain ⟨σ', h1, h2⟩ := he
  unfold wpListIn
  rw [if_pos (by rw [yielded_fr]; exact wanted_none _ rfl _)]
  refine ⟨fun _ _ => trivial, ?_⟩
  have h1' : (execOp (ev n ρ) ⟨none, op, ty, pos, af, none⟩).run P σ.w = .ok .skip σ'.w := h1
  rw [Oper.semAt_eq _ _ _ hnd, fr_eval, h1']
  simp only [Oper.uponIn_skip, fr_put_none]
  exact k σ' h2
/-- The call of yield. -/
theorem stI_yield {xs : Array Operand} {Ts : Array TypeId} {y : Operand} {l : Nat} {args : List Value} {R : Ending → World → Prop} (hf : ev n ρ y = .func (.yield l) #[] #[]) (hx : xs.toList.map (ev n ρ) = args) (hy : YieldAt Fence.wide 0 P l args.toArray w R)
    (k : ∀ e w', R e w' → ∃ v, e = .returned v ∧ wpListIn (Fz r) 0 P ops Q rest (fr n (upd ρ d v)) w') :
    wpListIn (Fz r) 0 P ops Q (⟨some d, .call ⟨.value y, xs, Ts⟩, ty, pos, af, none⟩ :: rest) (fr n ρ) w := by
  obtain ⟨fn, tmps, assign, body, h1, h2⟩ := hy
  unfold wpListIn
  rw [if_pos (by rw [yielded_fr]; exact wanted_none _ rfl _)]
  refine ⟨fun _ _ => trivial, ?_⟩
  rw [Oper.semAt_eq _ _ _ (fun c h => by cases h), fr_eval]
  have hx' : xs.map (ev n ρ) = args.toArray := by rw [← hx, ← Array.toList_map]
  have h3 : (execOp (ev n ρ) ⟨some d, .call ⟨.value y, xs, Ts⟩, ty, pos, af, none⟩).run P w = .ok (.round l fn tmps assign body) w := by
    simp only [execOp, resolve, hf, Deferred.ofValue, Sem.run_bind, Sem.run_pure, Result.andThen_ok, invoke, hx']
    simp [h1]
  rw [h3, Oper.uponIn_round]
  refine ⟨fun h => (by cases h), ?_⟩
  have h2' : RoundIn (Fz r) 0 P l fn tmps assign body w R := h2
  refine h2'.mono ?_
  intro e w' hR
  obtain ⟨v, rfl, hk⟩ := k e w' hR
  simp only [fr_put]
  exact hk
theorem endI (h : Q .normal (fr n ρ) w) : wpListIn (Fz r) 0 P ops Q [] (fr n ρ) w := h
theorem rgI {id : Nat} {l : List Oper} (h : wpListIn (Fz r) 0 P l.toArray Q l (fr n ρ) w) : (Code.region id l.toArray false).wpIn (Fz r) 0 P Q (fr n ρ) w := wpIn_region_lit h
theorem cdI_cond {c : Operand} {x y : Code} (b : Bool) (hc : ev n ρ c = .bool b) (ht : b = true → x.wpIn (Fz r) 0 P Q (fr n ρ) w) (hf : b = false → y.wpIn (Fz r) 0 P Q (fr n ρ) w) :
    (Code.cond c x y).wpIn (Fz r) 0 P Q (fr n ρ) w := wpIn_cond_split (by rw [fr_eval]; exact hc) ht hf
end

/-- The record of a loop. -/
def Ch.lp (l : Nat) (r : Loop) : Ch where
  dup := false
  fp i := i = l
  as σ := σ.w.heap[l]? = some (.loop r) ∧ σ.vis l = 0
  hdup h := by cases h
  hlt h i e := by subst e; exact lt_of_block h.1
  hst m hd h := by
    have hb := lt_of_block h.1
    have hS := hd l rfl
    exact ⟨(m.block l hb hS).trans h.1, (m.vis l hb hS).trans h.2⟩
/-- The block for the calls that its rounds defer. -/
def Ch.df (l : Nat) : Ch where
  dup := false
  fp i := i = l
  as σ := σ.w.heap[l]? = some (.deferred (some [])) ∧ σ.vis l = 0
  hdup h := by cases h
  hlt h i e := by subst e; exact lt_of_block h.1
  hst m hd h := by
    have hb := lt_of_block h.1
    have hS := hd l rfl
    exact ⟨(m.block l hb hS).trans h.1, (m.vis l hb hS).trans h.2⟩

section
variable {P : Program} {S0 : BS} {σ0 σ : St} {L : List Ch}
theorem Hp.newLp (H : Hp S0 σ0 σ L) (r : Loop) : Hp S0 σ0 (σ.new (.loop r) 0) (Ch.lp σ.size r :: L) :=
  Hp.frame0 (A' := [Ch.lp σ.size r]) H (Hp.fresh (St.new_mod _ _ _) _ ⟨St.new_new _ _ _, St.new_vis _ _ _⟩ (fun b hb => Nat.le_of_eq (Eq.symm hb)))
theorem Hp.newDf (H : Hp S0 σ0 σ L) : Hp S0 σ0 (σ.new (.deferred (some [])) 0) (Ch.df σ.size :: L) :=
  Hp.frame0 (A' := [Ch.df σ.size]) H (Hp.fresh (St.new_mod _ _ _) _ ⟨St.new_new _ _ _, St.new_vis _ _ _⟩ (fun b hb => Nat.le_of_eq (Eq.symm hb)))
theorem Hp.setLp {l : Nat} {r : Loop} (H : Hp S0 σ0 σ (Ch.lp l r :: L)) (r' : Loop) : Hp S0 σ0 (σ.put l (.loop r')) (Ch.lp l r' :: L) := by
  have h := H.all.1
  refine Hp.frame1 (A' := [Ch.lp l r']) H (Hp.one ((St.put_mod h.2).md.mono fun i hi => .inl ?_) ⟨World.put_at _ (lt_of_block h.1), h.2⟩ (fun b hb _ => .inl hb))
  exact (Option.some.inj hi).symm
theorem Hp.putDf {l : Nat} (H : Hp S0 σ0 σ (Ch.df l :: L)) (o : Obj) : Hp S0 σ0 (σ.put l o) L := by
  have h := H.all.1
  refine Hp.frame1 (A' := []) H ⟨(St.put_mod h.2).md.mono fun i hi => .inl ?_, trivial, trivial, fun b hb => hb.elim⟩
  exact (Option.some.inj hi).symm

theorem Hp.drop : ∀ (R : List Ch) {L : List Ch}, Hp S0 σ0 σ (R ++ L) → Hp S0 σ0 σ L
  | [], _, H => H
  | _ :: R, _, H => Hp.drop R H.tail
end

/-! ## Into and out of functions with such a statement -/
section
variable {P : Program} {ops : Array Oper} {Q : Exit → Act → World → Prop} {n d : Nat} {ρ : Nat → Value} {σ σ0 : St} {w : World} {v : Value} {rest : List Oper} {r : Option Nat} {S0 : BS} {L : List Ch}
variable {op : Op} {ty : TypeId} {pos : String} {af : Array Edge}
/-- A frame with deferred calls. -/
def frd (n : Nat) (ds : List Deferred) (ρ : Nat → Value) : Act := { fr n ρ with defers := ds }
theorem frd_eval {ds : List Deferred} : (frd n ds ρ).eval = (fr n ρ).eval := by funext x; cases x <;> rfl
theorem frd_put {ds : List Deferred} : (frd n ds ρ).put (some d) v = frd n ds (upd ρ d v) := by
  have := fr_put n ρ d v
  unfold frd
  simp only [Act.put] at this ⊢
  rw [← this]
theorem stD {ds : List Deferred} (hnd : ∀ c, op ≠ .defer c) (hr : RunV P w.heap n ρ ⟨some d, op, ty, pos, af, none⟩ v) (k : wpListIn (Fz r) 0 P ops Q rest (frd n ds (upd ρ d v)) w) :
    wpListIn (Fz r) 0 P ops Q (⟨some d, op, ty, pos, af, none⟩ :: rest) (frd n ds ρ) w := by
  unfold wpListIn
  rw [if_pos (wanted_none _ rfl _)]
  refine ⟨fun _ _ => trivial, ?_⟩
  rw [Oper.semAt_eq _ _ _ hnd, frd_eval, fr_eval, hr w rfl]
  simp only [Oper.uponIn_value, frd_put]
  exact k
theorem endD {ds : List Deferred} (h : Q .normal (frd n ds ρ) w) : wpListIn (Fz r) 0 P ops Q [] (frd n ds ρ) w := h
theorem rgD {id : Nat} {l : List Oper} {ds : List Deferred} (h : wpListIn (Fz r) 0 P l.toArray Q l (frd n ds ρ) w) : (Code.region id l.toArray false).wpIn (Fz r) 0 P Q (frd n ds ρ) w := wpIn_region_lit h
theorem round_fr {p : Nat} : ({ tmps := (Array.zip #[p] #[v]).foldl (fun t (p, v) => t.setIfInBounds p v) (fr n ρ).tmps, defers := [] } : Act) = fr n (upd ρ p v) := by
  rw [← fr_put]
  have : (Array.zip #[p] #[v]) = #[(p, v)] := by simp
  simp [this, Act.put, fr]
theorem eg_of {f : FuncId} (hf : ∃ fn c, P.funcs[f]? = some fn ∧ (fn.name == "runtime.NumGoroutine") = false ∧ fn.body = some c) (args : Array Value) (w : World) : (callFunc f args).run P w = .ok (.enter f args) w := by
  obtain ⟨fn, c, h1, h2, h3⟩ := hf
  simp only [callFunc, Sem.run_bind, run_program, Result.andThen_ok, h1, h2, h3]
  simp
theorem enterI {f : FuncId} {fn : Func} {c : Code} {l : List Value} {R : Ending → World → Prop} (hf : P.funcs[f]? = some fn) (hb : fn.body = some c) (hn : fn.ntmps = n) (hl : Nat.ble l.length n = true)
    (h : c.wpIn (Fz none) 0 P (bodyPostM Fence.wide 0 P fn R) (fr n (argsρ l)) w) : CallsIn Fence.wide 0 P f l.toArray w R := by
  refine callsIn_of_wp_marks hf hb trivial ?_
  have := fr_args l n (by simpa using hl)
  simp only [List.size_toArray, hn, this]
  exact h
theorem fin_plain' {fn : Func} {R : Ending → World → Prop} (hr : (results fn (fr n ρ).tmps).run P w = .ok v w) (hp : R (.returned v) w) : bodyPostM Fence.wide 0 P fn R .normal (fr n ρ) w := ⟨v, hr, hp⟩
theorem fin_mark {fn : Func} {R : Ending → World → Prop} {D : Nat} (H : Hp S0 σ0 σ (Ch.df D :: L)) (hr : (results fn (fr n ρ).tmps).run P (σ.put D (.deferred none)).w = .ok v (σ.put D (.deferred none)).w) (hp : R (.returned v) (σ.put D (.deferred none)).w) :
    bodyPostM Fence.wide 0 P fn R .ret (frd n [{ target := .collected D, args := #[] }] ρ) σ.w :=
  ⟨by simp, .inl ⟨D, _, rfl, run_takeDeferred H.all.1.1, v, hr, hp⟩⟩
end
end Go.Vs

namespace Go.Vs
open Go

/-- A record with a pointer to each of two trees below it: an item, a number, and the two. -/
inductive Tr (α : Type) where
  | nil
  | node (x : α) (n : Int) (l r : Tr α)
/-- What the record holds. -/
def Tr.get {α : Type} : Tr α → Option (α × Int × Tr α × Tr α)
  | .nil => none
  | .node x n l r => some (x, n, l, r)
def Tr.isNil {α : Type} : Tr α → Bool
  | .nil => true
  | .node .. => false
def Tr.mk {α : Type} (p : α × Int × Tr α × Tr α) : Tr α := .node p.1 p.2.1 p.2.2.1 p.2.2.2
section
variable {α : Type} [Rp α]
/-- A pointer to a published tree. -/
def RT (lo : Nat) (σ : St) : Value → Tr α → Prop
  | v, .nil => v = .pointer none
  | v, .node x n l r => ∃ b o c vl vr, v = pt b o ∧ lo ≤ b ∧ o + (Rp.sz α + 3) ≤ σ.vis b ∧ Rp.rp lo σ c x ∧ RT lo σ vl l ∧ RT lo σ vr r ∧
      ∀ j, (h : j < (c ++ [I n, vl, vr]).length) → σ.cell b (o + j) = some (c ++ [I n, vl, vr])[j]

theorem RT.plain {lo : Nat} {σ : St} {v : Value} {t : Tr α} (h : RT lo σ v t) : plain v = true := by
  cases t with
  | nil => rw [show v = .pointer none from h]; rfl
  | node x n l r => obtain ⟨b, o, c, vl, vr, rfl, _⟩ := h; rfl
theorem RT.extL {lo : Nat} {σ σ' : St} (hE : ExtL lo σ σ') : ∀ {t : Tr α} {v : Value}, RT lo σ v t → RT lo σ' v t
  | .nil, _, h => h
  | .node x n l r, _, ⟨b, o, c, vl, vr, h1, h2, h3, h4, h5, h6, h7⟩ => by
    refine ⟨b, o, c, vl, vr, h1, h2, Nat.le_trans h3 (hE.vis b h2), Rp.extL hE h4, RT.extL hE h5, RT.extL hE h6, fun j hj => ?_⟩
    have hl : (c ++ [I n, vl, vr]).length = Rp.sz α + 3 := by rw [List.length_append, Rp.len h4]; rfl
    rw [hE.cell b _ h2 (by omega)]
    exact h7 j hj
theorem RT.low {lo lo' : Nat} {σ : St} (hl : lo' ≤ lo) : ∀ {t : Tr α} {v : Value}, RT lo σ v t → RT lo' σ v t
  | .nil, _, h => h
  | .node x n l r, _, ⟨b, o, c, vl, vr, h1, h2, h3, h4, h5, h6, h7⟩ => ⟨b, o, c, vl, vr, h1, Nat.le_trans hl h2, h3, Rp.low hl h4, RT.low hl h5, RT.low hl h6, h7⟩
instance : Rp (Tr α) where
  sz := 1
  rp lo σ cs t := ∃ v, cs = [v] ∧ RT lo σ v t
  pos := by decide
  len := by rintro _ _ _ _ ⟨v, rfl, _⟩; rfl
  extL := by rintro _ _ _ _ _ hE ⟨v, rfl, h⟩; exact ⟨v, rfl, h.extL hE⟩
  low := by rintro _ _ _ _ _ hl ⟨v, rfl, h⟩; exact ⟨v, rfl, h.low hl⟩
  one := by
    rintro _ _ _ _ ⟨v, rfl, h⟩ c hc
    simp only [List.mem_singleton] at hc
    rw [hc]; exact h.plain

/-- What lies behind the pointer. -/
theorem RT.at' {lo : Nat} {σ : St} {v : Value} {t : Tr α} {p : α × Int × Tr α × Tr α} (h : RT lo σ v t) (hp : t.get = some p) : ∃ b o, v = pt b o ∧ At lo σ b o p := by
  cases t with
  | nil => cases hp
  | node x n l r =>
    cases hp
    obtain ⟨b, o, c, vl, vr, h1, h2, h3, h4, h5, h6, h7⟩ := h
    exact ⟨b, o, h1, c ++ [I n, vl, vr], ⟨c, [I n, vl, vr], rfl, h4, [I n], [vl, vr], rfl, rfl, [vl], [vr], rfl, ⟨vl, rfl, h5⟩, ⟨vr, rfl, h6⟩⟩, h7⟩

theorem RT.ex {lo : Nat} {σ : St} {v : Value} {t : Tr α} {p : α × Int × Tr α × Tr α} (h : RT lo σ v t) (hp : t.get = some p) : ∃ b o, v = pt b o := by
  obtain ⟨b, o, h, _⟩ := h.at' hp
  exact ⟨b, o, h⟩
theorem RT.at {lo : Nat} {σ : St} {v : Value} {t : Tr α} {p : α × Int × Tr α × Tr α} {b o : Nat} (h : RT lo σ v t) (hp : t.get = some p) (hv : v = pt b o) : At lo σ b o p := by
  obtain ⟨b', o', h1, h2⟩ := h.at' hp
  rw [hv] at h1
  cases h1
  exact h2
theorem RT.hmd {S : BS} {lo : Nat} {σ σ' : St} {v u : Value} {t : Tr α} {p : α × Int × Tr α × Tr α} {b o : Nat} (h : RT lo σ v t) (hp : t.get = some p) (hv : v = pt b o) {k : Nat} (hk : k < Rp.sz α + 3)
    (hc : HCell σ.w.heap b (o + k) = some u) (m : Md S σ σ') : HCell σ'.w.heap b (o + k) = some u := by
  cases t with
  | nil => cases hp
  | node x n l r =>
    obtain ⟨b', o', c, vl, vr, h1, h2, h3, _⟩ := h
    rw [hv] at h1
    cases h1
    rw [HCell_eq] at hc ⊢
    exact (m.ext.cell b (o + k) (by omega)).trans hc
variable {S0 : BS} {σ0 σ : St} {L R : List Ch} {el lo b i : Nat} {v : Value} {t : Tr α} {cs : List Value}
end

section
variable {α : Type} [Rp α] {P : Program} {H : Array Obj} {n lo : Nat} {ρ : Nat → Value} {d : Option Nat} {ty T T' : TypeId} {pos : String} {af : Array Edge} {gd : Option (Nat × Bool)} {x y : Operand} {v : Value} {t : Tr α} {σ : St}
end
end Go.Vs

namespace Go.Vs
open Go

instance : Rp Value where
  sz := 1
  rp _ _ cs x := cs = [x] ∧ plain x = true
  pos := by decide
  len := by rintro _ _ _ _ ⟨rfl, _⟩; rfl
  extL := fun _ h => h
  low := fun _ h => h
  one := by rintro _ _ _ _ ⟨rfl, h⟩; simpa using h
instance : Sc Value := ⟨fun h => h⟩

section
variable {S0 : BS} {σ0 σ : St} {L K R : List Ch} {c : Ch}
theorem Hp.bigCons (H : Hp S0 σ0 σ (c :: Ch.big K :: R)) : Hp S0 σ0 σ (Ch.big (c :: K) :: R) :=
  ⟨H.md, ⟨⟨⟨H.all.1, H.all.2.1.1⟩, ⟨fun b hb h => H.ap.1 b hb (.inl h), H.all.2.1.2⟩⟩, H.all.2.2⟩,
    ⟨fun b hb h => hb.elim (fun hb => H.ap.1 b hb (.inr h)) (fun hb => H.ap.2.1 b hb h), H.ap.2.2⟩,
    fun b hb => H.org b (hb.elim (fun hb => hb.elim .inl (fun hb => .inr (.inl hb))) (fun hb => .inr (.inr hb)))⟩
theorem Hp.bigSnoc (H : Hp S0 σ0 σ (c :: Ch.big K :: R)) : Hp S0 σ0 σ (Ch.big (K ++ [c]) :: R) :=
  ⟨H.md, ⟨⟨allAs_append.2 ⟨H.all.2.1.1, H.all.1, trivial⟩, apart_append.2 ⟨H.all.2.1.2, ⟨fun _ _ h => h, trivial⟩, fun b hb h => h.elim (fun h => H.ap.1 b h (.inl hb)) id⟩⟩, H.all.2.2⟩,
    ⟨fun b hb h => (cov_append.1 hb).elim (fun hb => H.ap.2.1 b hb h) (fun hb => hb.elim (fun hb => H.ap.1 b hb (.inr h)) id), H.ap.2.2⟩,
    fun b hb => H.org b (hb.elim (fun hb => (cov_append.1 hb).elim (fun hb => .inr (.inl hb)) (fun hb => hb.elim .inl (fun h => h.elim))) (fun hb => .inr (.inr hb)))⟩
theorem Hp.unbig (H : Hp S0 σ0 σ (Ch.big (c :: K) :: R)) : Hp S0 σ0 σ (c :: Ch.big K :: R) :=
  ⟨H.md, ⟨H.all.1.1.1, ⟨H.all.1.1.2, H.all.1.2.2⟩, H.all.2⟩,
    ⟨fun b hb h => h.elim (H.all.1.2.1 b hb) (H.ap.1 b (.inl hb)), ⟨fun b hb h => H.ap.1 b (.inr hb) h, H.ap.2⟩⟩,
    fun b hb => H.org b (hb.elim (fun hb => .inl (.inl hb)) (fun hb => hb.elim (fun hb => .inl (.inr hb)) .inr))⟩
end

/-- Data with one list in it: how they lie in memory, with the slice's value in the list's place. -/
class Dl (α : Type) (β : outParam Type) [Rp α] [Rp β] where
  sh : α → Value → β
  inn : α → List Int
  sz : Rp.sz α = Rp.sz β
  rp : ∀ {lo lo' : Nat} {σ : St} {cs : List Value} {x : α} {h : Value}, Rp.rp lo σ cs (sh x h) → RS lo' σ h (inn x) → Rp.rp lo' σ cs x
instance : Dl (List Int) Value where
  sh _ h := h
  inn x := x
  sz := rfl
  rp := by rintro _ _ _ _ _ _ ⟨rfl, _⟩ h; exact ⟨_, rfl, h⟩
instance : Dl (Int × List Int × Int) (Int × Value × Int) where
  sh x h := (x.1, h, x.2.2)
  inn x := x.2.1
  sz := rfl
  rp := by
    rintro _ _ _ _ _ _ ⟨_, _, rfl, h1, ⟨_, _, rfl, ⟨rfl, _⟩, h3⟩⟩ h
    exact ⟨_, _, rfl, h1, ⟨_, _, rfl, ⟨_, rfl, h⟩, h3⟩⟩

section
variable {α β : Type} [Rp α] [Rp β] [Dl α β]
def dsh (p : α × Value) : β := Dl.sh p.1 p.2
def dow (lo : Nat) (p : α × Value) : Ch := Ch.own lo lo p.2 (Dl.inn p.1)

/-- The chunks of such a slice. -/
structure Dp (lo : Nat) (v : Value) (xs : List α) (K : List Ch) : Prop where
  ex : ∃ ps : List (α × Value), xs = ps.map (·.1) ∧ K = Ch.own lo lo v (ps.map dsh) :: ps.map (dow lo)

end

/-! ## Filling -/
end Go.Vs

namespace Go.Vs
open Go

/-! ## What maps hold -/
section
variable {α : Type}
def mput (m : List (Int × List α)) (k : Int) (xs : List α) : List (Int × List α) := match m with
  | [] => [(k, xs)]
  | p :: r => if p.1 = k then (k, xs) :: r else p :: mput r k xs
end
def vfind : List (Int × Value) → Int → Nat → Option (Nat × Value)
  | [], _, _ => none
  | p :: r, k, i => if k = p.1 then some (i, p.2) else vfind r k (i + 1)
/-- The entries of a map. -/
def EntsL (es : List (Int × Value)) (E : List MapEntry) : Prop := E.map (fun e => (e.key, e.val)) = es.map (fun p => (I p.1, p.2))
theorem findNow_ok (k : Int) : ∀ (E : List MapEntry) (es : List (Int × Value)) (i : Nat), EntsL es E → Instr.findNow (.int .i64) (I k) E i = some (vfind es k i)
  | [], [], _, _ => rfl
  | [], _ :: _, _, h => by simp [EntsL] at h
  | _ :: _, [], _, h => by simp [EntsL] at h
  | e :: E, p :: es, i, h => by
    simp only [EntsL, List.map_cons, List.cons.injEq, Prod.mk.injEq] at h
    obtain ⟨⟨h1, h2⟩, h3⟩ := h
    have hs : Instr.sameNow (.int .i64) (I k) (I p.1) = some (k == p.1) := rfl
    unfold Instr.findNow vfind
    rw [h1, hs]
    by_cases hk : k = p.1
    · subst hk; simp [h2]
    · have : (k == p.1) = false := by simpa using hk
      rw [this, if_neg hk]
      exact findNow_ok k E es (i + 1) h3
theorem vfind_none {es : List (Int × Value)} {k : Int} : ∀ {i : Nat}, (∀ p ∈ es, p.1 ≠ k) → vfind es k i = none := by
  induction es with
  | nil => intro _ _; rfl
  | cons p r ih =>
    intro i h
    unfold vfind
    rw [if_neg (fun e => h p (by simp) e.symm)]
    exact ih (fun q hq => h q (by simp [hq]))
theorem vfind_some {A B : List (Int × Value)} {k : Int} {v : Value} : ∀ {i : Nat}, (∀ p ∈ A, p.1 ≠ k) → vfind (A ++ (k, v) :: B) k i = some (i + A.length, v) := by
  induction A with
  | nil => intro i _; simp [vfind]
  | cons p r ih =>
    intro i h
    simp only [List.cons_append]
    unfold vfind
    rw [if_neg (fun e => h p (by simp) e.symm), ih (fun q hq => h q (by simp [hq]))]
    simp; omega

/-! ## Chunks -/
def Ch.mp (lo b : Nat) (es : List (Int × Value)) : Ch where
  dup := false
  fp i := i = b
  as σ := (∃ E clk, σ.w.heap[b]? = some (.map E clk) ∧ EntsL es E.toList) ∧ σ.vis b = 0 ∧ lo ≤ b
  hdup h := by cases h
  hlt h i e := by subst e; obtain ⟨⟨E, clk, h1, _⟩, _⟩ := h; exact lt_of_block h1
  hst m hd h := by
    obtain ⟨⟨E, clk, h1, h2⟩, h3, h4⟩ := h
    have hb := lt_of_block h1
    have hS := hd _ rfl
    exact ⟨⟨E, clk, (m.block _ hb hS).trans h1, h2⟩, (m.vis _ hb hS).trans h3, h4⟩

section
variable {α : Type} [Rp α]
abbrev Pm (α : Type) := Int × Value × List α
def pmE (p : Pm α) : Int × Value := (p.1, p.2.1)
def pmM (p : Pm α) : Int × List α := (p.1, p.2.2)
def pmC (lo el : Nat) (p : Pm α) : Ch := Ch.own lo el p.2.1 p.2.2
/-- The chunks of a map whose values are its own. -/
structure Mp (lo el b : Nat) (m : List (Int × List α)) (K : List Ch) : Prop where
  ex : ∃ ps : List (Pm α), m = ps.map pmM ∧ K = Ch.mp lo b (ps.map pmE) :: ps.map (pmC lo el)
/-- .. of which one value, v at k, has been taken out. -/
structure MpH (lo el b : Nat) (m : List (Int × List α)) (k : Int) (v : Value) (K : List Ch) : Prop where
  ex : (∃ (A : List (Pm α)) (xs : List α) (B : List (Pm α)), (∀ q ∈ A, q.1 ≠ k) ∧ m = (A ++ (k, v, xs) :: B).map pmM ∧ K = Ch.mp lo b ((A ++ (k, v, xs) :: B).map pmE) :: (A ++ B).map (pmC lo el)) ∨
    ∃ ps : List (Pm α), (∀ q ∈ ps, q.1 ≠ k) ∧ v = .slice none 0 0 ∧ m = ps.map pmM ∧ K = Ch.mp lo b (ps.map pmE) :: ps.map (pmC lo el)
theorem Mp.nil {lo el b : Nat} : Mp (α := α) lo el b [] [Ch.mp lo b []] := ⟨⟨[], rfl, rfl⟩⟩

omit [Rp α] in
theorem mput_some {A B : List (Pm α)} {k : Int} {v v' : Value} {xs ys : List α} (h : ∀ q ∈ A, q.1 ≠ k) : mput ((A ++ (k, v, xs) :: B).map pmM) k ys = (A ++ (k, v', ys) :: B).map pmM := by
  induction A with
  | nil => simp [mput, pmM]
  | cons p r ih =>
    simp only [List.cons_append, List.map_cons]
    unfold mput
    rw [if_neg (show (pmM p).1 ≠ k from h p (by simp)), ih (fun q hq => h q (by simp [hq]))]
omit [Rp α] in
theorem mput_none {ps : List (Pm α)} {k : Int} {v' : Value} {ys : List α} (h : ∀ q ∈ ps, q.1 ≠ k) : mput (ps.map pmM) k ys = (ps ++ [(k, v', ys)]).map pmM := by
  induction ps with
  | nil => rfl
  | cons p r ih =>
    simp only [List.cons_append, List.map_cons]
    unfold mput
    rw [if_neg (show (pmM p).1 ≠ k from h p (by simp)), ih (fun q hq => h q (by simp [hq]))]
end

section
variable {S0 : BS} {σ0 σ σ' : St} {L K R A B : List Ch} {c : Ch}
theorem Hp.bigPut (H : Hp S0 σ0 σ (c :: Ch.big (A ++ B) :: R)) : Hp S0 σ0 σ (Ch.big (A ++ c :: B) :: R) := by
  obtain ⟨⟨h0, ⟨h1, h2⟩, h3⟩, ⟨h4, h5, h6⟩⟩ := And.intro H.all H.ap
  obtain ⟨a1, a2⟩ := allAs_append.1 h1
  obtain ⟨p1, p2, p3⟩ := apart_append.1 h2
  refine ⟨H.md, ⟨⟨allAs_append.2 ⟨a1, h0, a2⟩, apart_append.2 ⟨p1, ⟨fun b hb h => h4 b hb (.inl (cov_append.2 (.inr h))), p2⟩, fun b hb h => ?_⟩⟩, h3⟩, ⟨fun b hb h => ?_, h6⟩, fun b hb => H.org b ?_⟩
  · rcases h with h | h
    · exact h4 b h (.inl (cov_append.2 (.inl hb)))
    · exact p3 b hb h
  · rcases cov_append.1 hb with hb | hb | hb
    · exact h5 b (cov_append.2 (.inl hb)) h
    · exact h4 b hb (.inr h)
    · exact h5 b (cov_append.2 (.inr hb)) h
  · rcases hb with hb | hb
    · rcases cov_append.1 hb with hb | hb | hb
      · exact .inr (.inl (cov_append.2 (.inl hb)))
      · exact .inl hb
      · exact .inr (.inl (cov_append.2 (.inr hb)))
    · exact .inr (.inr hb)
end

/-! ## Taking a value out -/
section
variable {α : Type} [Rp α] {S0 : BS} {σ0 σ σ' : St} {L K R : List Ch} {lo el b i : Nat} {m : List (Int × List α)} {k : Int} {v : Value}
/-- What a map has at a key. -/
def LkH (H : Array Obj) (b : Nat) (k : Int) (v : Value) : Prop := ∃ E clk es, H[b]? = some (.map E clk) ∧ EntsL es E.toList ∧ ((∃ i, vfind es k 0 = some (i, v)) ∨ (vfind es k 0 = none ∧ v = .slice none 0 0))
theorem LkH.md {S : BS} (h : LkH σ.w.heap b k v) (m : Md S σ σ') (hb : ¬ S b) : LkH σ'.w.heap b k v := by
  obtain ⟨E, clk, es, h1, h2⟩ := h
  exact ⟨E, clk, es, (m.block b (lt_of_block h1) hb).trans h1, h2⟩
omit [Rp α] in
theorem pmE_ne {ps : List (Pm α)} (h : ∀ q ∈ ps, q.1 ≠ k) : ∀ p ∈ ps.map pmE, p.1 ≠ k := by
  intro p hp
  obtain ⟨q, hq, rfl⟩ := List.mem_map.1 hp
  exact h q hq
theorem MpH.look (h : MpH lo el b m k v K) (H : Hp S0 σ0 σ L) (i : Nat) (hn : nth L i = some (Ch.big K)) : LkH σ.w.heap b k v := by
  have hb : allAs σ K ∧ apart K := H.get hn
  rcases h.ex with ⟨A, xs, B, hA, -, rfl⟩ | ⟨ps, hps, rfl, -, rfl⟩
  · obtain ⟨⟨E, clk, h1, h2⟩, _⟩ := hb.1.1
    refine ⟨E, clk, _, h1, h2, .inl ⟨0 + (A.map pmE).length, ?_⟩⟩
    rw [List.map_append, List.map_cons]
    exact vfind_some (pmE_ne hA)
  · obtain ⟨⟨E, clk, h1, h2⟩, _⟩ := hb.1.1
    exact ⟨E, clk, _, h1, h2, .inr ⟨vfind_none (pmE_ne hps), rfl⟩⟩
end

/-! ## Operations -/
theorem run_getMap {P : Program} {w : World} {r : Nat} {E : Array MapEntry} {clk : Nat} (h : w.heap[r]? = some (.map E clk)) : (getObj r).run P w = .ok (.map E clk) w := by
  simp only [getObj, Sem.run, h]
theorem run_setMap {P : Program} {w : World} {r : Nat} {E E' : Array MapEntry} {clk clk' : Nat} (h : w.heap[r]? = some (.map E clk)) : (setObj r (.map E' clk')).run P w = .ok () (World.put w r (.map E' clk')) := by
  simp only [setObj, Sem.run, h]; rfl
theorem run_findKey {P : Program} {w : World} {T : TypeId} {k : Int} {E : List MapEntry} {es : List (Int × Value)} (hT : P.underlying T = some (.int .i64)) (h : EntsL es E) : (Instr.findKey T (I k) E).run P w = .ok (vfind es k 0) w := by
  simp only [Instr.findKey, underlying, Sem.run_bind, run_program, Result.andThen_ok, hT, Sem.run_pure, findNow_ok k E es 0 h]
theorem run_checkKey {P : Program} {w : World} {T : TypeId} {k : Int} {e : Bool} (hT : P.underlying T = some (.int .i64)) : (Instr.checkKey e 10000 T (I k)).run P w = .ok () w := by
  show (Instr.checkKey e (9999 + 1) T (I k)).run P w = _
  unfold Instr.checkKey
  simp only [underlying, Sem.run_bind, run_program, Result.andThen_ok, hT, Sem.run_pure]
section
variable {P : Program} {n : Nat} {ρ : Nat → Value} {dst : Option Nat} {ty T Tk Te : TypeId} {pos : String} {af : Array Edge} {gd : Option (Nat × Bool)} {x y z : Operand} {v v' : Value} {b s bt lo el : Nat} {k : Int} {H : Array Obj}
variable {α : Type} [Rp α] {S0 : BS} {σ0 σ σ' : St} {L K R : List Ch} {m : List (Int × List α)} {xs : List α}
theorem ents_set {A B : List (Int × Value)} {k : Int} {v v' : Value} {E : Array MapEntry} (h : EntsL (A ++ (k, v) :: B) E.toList) :
    EntsL (A ++ (k, v') :: B) (E.modify A.length fun e => { e with key := I k, val := v' }).toList := by
  unfold EntsL at h ⊢
  rw [Array.toList_modify]
  have hl : A.length < E.toList.length := by
    have := congrArg List.length h
    simp at this ⊢; omega
  apply List.ext_getElem
  · have := congrArg List.length h
    simp at this ⊢; omega
  intro i h1 h2
  simp only [List.getElem_map, List.getElem_modify]
  have hi : i < E.toList.length := by simpa using h1
  have he : ((E.toList.map fun e => (e.key, e.val)))[i]'(by simpa using hi) = (((A ++ (k, v) :: B).map fun p => (I p.1, p.2)))[i]'(by rw [← h]; simpa using hi) := by simp only [h]
  simp only [List.getElem_map] at he
  by_cases hA : A.length = i
  · subst hA
    rw [if_pos rfl]
    simp
  · rw [if_neg hA, he]
    rcases Nat.lt_or_ge i A.length with hlt | hge
    · rw [List.getElem_append_left hlt, List.getElem_append_left hlt]
    · rw [List.getElem_append_right hge, List.getElem_append_right hge]
      obtain ⟨j, hj⟩ : ∃ j, i - A.length = j + 1 := ⟨i - A.length - 1, by omega⟩
      simp only [hj, List.getElem_cons_succ]
theorem ents_push {A : List (Int × Value)} {k : Int} {v' : Value} {E : Array MapEntry} {c : Nat} (h : EntsL A E.toList) : EntsL (A ++ [(k, v')]) (E.push { key := I k, val := v', born := c }).toList := by
  unfold EntsL at h ⊢
  simp [h]
theorem run_mapUpdate {w : World} {E : Array MapEntry} {clk : Nat} {es es' : List (Int × Value)} (hT : P.underlying T = some (.map Tk Te)) (hk : P.underlying Tk = some (.int .i64)) (h1 : w.heap[b]? = some (.map E clk)) (h2 : EntsL es E.toList)
    (h3 : (∃ A v B, es = A ++ (k, v) :: B ∧ (∀ p ∈ A, p.1 ≠ k) ∧ es' = A ++ (k, v') :: B) ∨ ((∀ p ∈ es, p.1 ≠ k) ∧ es' = es ++ [(k, v')])) :
    ∃ E' clk', (Instr.mapUpdate T (.map (some b)) (I k) v').run P w = .ok () (World.put w b (.map E' clk')) ∧ EntsL es' E'.toList := by
  have e1 := run_getMap (P := P) h1
  have e2 := run_checkKey (P := P) (w := w) (k := k) (e := false) hk
  have e3 := run_findKey (P := P) (w := w) (k := k) hk h2
  rcases h3 with ⟨A, v, B, rfl, hA, rfl⟩ | ⟨hn, rfl⟩
  · rw [vfind_some hA] at e3
    refine ⟨_, clk, ?_, ents_set (v' := v') h2⟩
    have hkey : ((E[A.length]?).map (·.key)).getD (I k) = I k := by
      have hl : A.length < E.toList.length := by
        have := congrArg List.length h2
        simp at this ⊢; omega
      have he : ((E.toList.map fun e => (e.key, e.val)))[A.length]'(by simpa using hl) = (((A ++ (k, v) :: B).map fun p => (I p.1, p.2)))[A.length]'(by simp) := by
        have h2' : E.toList.map (fun e => (e.key, e.val)) = (A ++ (k, v) :: B).map (fun p => (I p.1, p.2)) := h2
        simp only [h2']
      simp only [List.getElem_map, List.getElem_append_right (Nat.le_refl _), Nat.sub_self, List.getElem_cons_zero, Prod.mk.injEq] at he
      have hs : A.length < E.size := by simpa using hl
      rw [Array.getElem?_eq_getElem hs]
      simpa using he.1
    have hstay : (Instr.keyThatStays (I k) (I k)).run P w = .ok (I k) w := by
      have : Instr.sameBits 10000 (I k) (I k) = true := by
        show Instr.sameBits (9999 + 1) (.int .i64 k) (.int .i64 k) = true
        unfold Instr.sameBits; simp
      simp only [Instr.keyThatStays, this, if_true, Sem.run_pure]
    simp only [Nat.zero_add] at e3
    simp only [Instr.mapUpdate, underlying, Sem.run_bind, run_program, Result.andThen_ok, hT, Sem.run_pure, e1, e2, e3, hkey, hstay, run_setMap h1]
  · rw [vfind_none hn] at e3
    refine ⟨_, clk + 1, ?_, ents_push (v' := v') (c := clk) h2⟩
    simp only [Instr.mapUpdate, underlying, Sem.run_bind, run_program, Result.andThen_ok, hT, Sem.run_pure, e1, e2, e3, run_setMap h1]
theorem turn_mp {es es' : List (Int × Value)} {E' : Array MapEntry} {clk' : Nat} (Hh : Hp S0 σ0 σ (Ch.mp lo b es :: R)) (h2 : EntsL es' E'.toList) :
    Hp S0 σ0 (σ.put b (.map E' clk')) (Ch.mp lo b es' :: R) ∧ Md (fun i => i = b) σ (σ.put b (.map E' clk')) := by
  obtain ⟨⟨E, clk, h1, _⟩, h3, h4⟩ := Hh.head
  have hb := lt_of_block h1
  have m : Md (fun i => i = b) σ (σ.put b (.map E' clk')) := (St.put_mod h3).md.mono fun i hi => by cases hi; rfl
  exact ⟨Hp.frame1 (A' := [Ch.mp lo b es']) Hh (Hp.one (m.mono fun i hi => .inl hi) ⟨⟨E', clk', World.put_at _ hb, h2⟩, h3, h4⟩ (fun i hi _ => .inl hi)), m⟩
/-- A value, put (back) into the map. -/
theorem MpH.put (hK : MpH lo el b m k v K) (v' : Value) (ys : List α) : ∃ K2, Mp lo el b (mput m k ys) K2 ∧ ∀ {P : Program} {n : Nat} {ρ : Nat → Value} {dst : Option Nat} {ty T Tk Te : TypeId} {pos : String} {af : Array Edge} {gd : Option (Nat × Bool)} {x y z : Operand} {S0 : BS} {σ0 σ : St} {R : List Ch},
    Hp S0 σ0 σ (Ch.big K :: Ch.own lo el v' ys :: R) → P.underlying T = some (.map Tk Te) → P.underlying Tk = some (.int .i64) → ev n ρ x = .map (some b) → ev n ρ y = I k → ev n ρ z = v' →
    ExS P σ n ρ ⟨dst, .mapUpdate T x y z, ty, pos, af, gd⟩ fun σ' => Hp S0 σ0 σ' (Ch.big K2 :: R) ∧ Md (fun i => i = b) σ σ' := by
  have swap : ∀ {S0 : BS} {σ0 σ : St} {c d : Ch} {R : List Ch}, Hp S0 σ0 σ (c :: d :: R) → Hp S0 σ0 σ (d :: c :: R) := fun H => H.front (i := 1) rfl
  rcases hK.ex with ⟨A, xs, B, hA, rfl, rfl⟩ | ⟨ps, hps, rfl, rfl, rfl⟩
  · refine ⟨_, ⟨⟨A ++ (k, v', ys) :: B, mput_some hA, rfl⟩⟩, ?_⟩
    intro P n ρ dst ty T Tk Te pos af gd x y z S0 σ0 σ R H hT hk hx hy hz
    have H1 := H.unbig
    obtain ⟨⟨E, clk, h1, h2⟩, h3, h4⟩ := H1.head
    obtain ⟨E', clk', hr, h5⟩ := run_mapUpdate (P := P) (v' := v') (k := k) (es' := (A ++ (k, v', ys) :: B).map pmE) hT hk h1 h2 (.inl ⟨A.map pmE, v, B.map pmE, by rw [List.map_append]; rfl, pmE_ne hA, by rw [List.map_append]; rfl⟩)
    obtain ⟨H2, m2⟩ := turn_mp (clk' := clk') H1 h5
    refine ⟨σ.put b (.map E' clk'), ?_, ?_, m2⟩
    · simp [RunS, execOp, hx, hy, hz, hr, St.put]
    · rw [List.map_append (f := pmC lo el)] at H2
      have H3 := swap H2.tail
      have H4 := Hp.bigPut (A := A.map (pmC lo el)) (c := Ch.own lo el v' ys) (B := B.map (pmC lo el)) H3
      have H5 : Hp S0 σ0 (σ.put b (.map E' clk')) (Ch.mp lo b ((A ++ (k, v', ys) :: B).map pmE) :: Ch.big (A.map (pmC lo el) ++ Ch.own lo el v' ys :: B.map (pmC lo el)) :: R) := by
        refine ⟨H2.md, ⟨H2.all.1, H4.all⟩, ⟨fun i hi hc => ?_, H4.ap⟩, fun i hi => ?_⟩
        · refine H2.ap.1 i hi ?_
          rcases hc with hc | hc
          · rcases cov_append.1 hc with hc | hc | hc
            · exact .inl (cov_append.2 (.inl hc))
            · exact .inr (.inl hc)
            · exact .inl (cov_append.2 (.inr hc))
          · exact .inr (.inr hc)
        · rcases hi with hi | hi
          · exact H2.org i (.inl hi)
          · exact H4.org i hi
      have H6 := H5.bigCons
      rw [List.map_append (f := pmC lo el), List.map_cons (f := pmC lo el)]
      exact H6
  · refine ⟨_, ⟨⟨ps ++ [(k, v', ys)], mput_none hps, rfl⟩⟩, ?_⟩
    intro P n ρ dst ty T Tk Te pos af gd x y z S0 σ0 σ R H hT hk hx hy hz
    have H1 := H.unbig
    obtain ⟨⟨E, clk, h1, h2⟩, h3, h4⟩ := H1.head
    obtain ⟨E', clk', hr, h5⟩ := run_mapUpdate (P := P) (v' := v') (k := k) (es' := (ps ++ [(k, v', ys)]).map pmE) hT hk h1 h2 (.inr ⟨pmE_ne hps, by rw [List.map_append]; rfl⟩)
    obtain ⟨H2, m2⟩ := turn_mp (clk' := clk') H1 h5
    refine ⟨σ.put b (.map E' clk'), ?_, ?_, m2⟩
    · simp [RunS, execOp, hx, hy, hz, hr, St.put]
    · have H3 := swap H2.tail
      have H4 := H3.bigSnoc
      have H5 : Hp S0 σ0 (σ.put b (.map E' clk')) (Ch.mp lo b ((ps ++ [(k, v', ys)]).map pmE) :: Ch.big (ps.map (pmC lo el) ++ [Ch.own lo el v' ys]) :: R) := by
        refine ⟨H2.md, ⟨H2.all.1, H4.all⟩, ⟨fun i hi hc => ?_, H4.ap⟩, fun i hi => ?_⟩
        · refine H2.ap.1 i hi ?_
          rcases hc with hc | hc
          · rcases cov_append.1 hc with hc | hc | hc
            · exact .inl hc
            · exact .inr (.inl hc)
            · exact hc.elim
          · exact .inr (.inr hc)
        · rcases hi with hi | hi
          · exact H2.org i (.inl hi)
          · exact H4.org i hi
      have H6 := H5.bigCons
      rw [List.map_append (f := pmC lo el)]
      exact H6

/-! ## A map whose values are published -/
end
end Go.Vs

namespace Go.Vs
open Go

section
variable {α β : Type} [Rp α] [Rp β] [Dl α β] {S0 : BS} {σ0 σ σ' : St} {L K R : List Ch} {lo i : Nat} {v u : Value} {xs : List α} {a : Int} {e : α}

omit [Rp α] [Rp β] [Dl α β] in
theorem gidx_of_map {γ : Type} (f : γ → α) {ps : List γ} {a : Int} {p : γ} (h : gidx ps a = some p) : gidx (ps.map f) a = some (f p) := by
  unfold gidx at *
  split at h
  · rename_i h0
    rw [if_pos h0, List.getElem?_map, h]; rfl
  · cases h
/-- .. of which the memory of one element, e at a with the slice u, has been taken out. -/
structure DpH (lo : Nat) (v : Value) (xs : List α) (a : Int) (e : α) (u : Value) (K : List Ch) : Prop where
  ex : ∃ A B : List (α × Value), xs = (A ++ (e, u) :: B).map (·.1) ∧ a = (A.length : Int) ∧ K = Ch.own lo lo v ((A ++ (e, u) :: B).map dsh) :: (A ++ B).map (dow lo)
theorem DpH.at {b o : Nat} (hK : DpH lo v xs a e u K) (H : Hp S0 σ0 σ L) (i : Nat) (hn : nth L i = some (Ch.big K)) (hi : Ix v a (Rp.sz α) b o) : At lo σ b o (Dl.sh e u) := by
  have hb : allAs σ K ∧ apart K := H.get hn
  obtain ⟨A, B, rfl, rfl, rfl⟩ := hK.ex
  have hO : Ow σ lo lo v ((A ++ (e, u) :: B).map dsh) := hb.1.1
  have hg : gidx ((A ++ (e, u) :: B).map (dsh (α := α) (β := β))) (A.length : Int) = some (Dl.sh e u) := by
    refine gidx_of_map dsh (p := (e, u)) ?_
    unfold gidx
    rw [if_pos (by omega)]
    simp
  rw [Dl.sz (α := α) (β := β)] at hi
  exact hO.at hg hi
theorem At.val {b o : Nat} {u : Value} (h : At lo σ b o u) : HCell σ.w.heap b o = some u := by
  obtain ⟨cs, ⟨rfl, _⟩, h2⟩ := h
  rw [HCell_eq]; exact h2 0 (by simp)
end

section
variable {α β : Type} [Rp α] [Rp β] [Dl α β] {S0 : BS} {σ0 σ σ' : St} {L K R : List Ch} {lo i : Nat} {v u u' w : Value} {xs : List α} {a : Int} {e : α}
/-- What is stored into the element whose memory is out; its memory comes in. -/
theorem DpH.put (hK : DpH lo v xs a e u K) (e' : α) (u' : Value) : ∃ K2, Dp lo v (xs.set a.toNat e') K2 ∧ ∀ {P : Program} {n : Nat} {ρ : Nat → Value} {dst : Option Nat} {ty T : TypeId} {z : Value} {s bt : Nat} {pos : String} {af : Array Edge} {gd : Option (Nat × Bool)} {x y : Operand} {w : Value} {bl o o' k : Nat} {vs : List Value} {S0 : BS} {σ0 σ : St} {R : List Ch},
    Hp S0 σ0 σ (Ch.big K :: Ch.own lo lo u' (Dl.inn e') :: R) → TI P T z s bt → Ix v a (Rp.sz α) bl o → ev n ρ x = pt bl o' → o' = o + k → ev n ρ y = w → w.cells = vs.toArray → vs.length = s → k + vs.length ≤ Rp.sz α → (∀ t ∈ vs, plain t = true) →
    (∀ {σ : St} cs, Rp.rp lo σ cs (Dl.sh e u) → Rp.rp lo σ (wrL cs k vs) (Dl.sh e' u')) →
    ExS P σ n ρ ⟨dst, .store T x y, ty, pos, af, gd⟩ fun σ' => Hp S0 σ0 σ' (Ch.big K2 :: R) ∧ Md (fun b => blk v = some b) σ σ' := by
  obtain ⟨A, B, rfl, rfl, rfl⟩ := hK.ex
  have hset : ((A ++ (e, u) :: B).map (dsh (α := α) (β := β))).set (A.length : Int).toNat (Dl.sh e' u') = (A ++ (e', u') :: B).map dsh := by
    rw [Int.toNat_natCast, List.map_append, List.set_append_right _ _ (by simp), List.length_map, Nat.sub_self, List.map_cons, List.set_cons_zero, List.map_append]; rfl
  refine ⟨_, ⟨⟨A ++ (e', u') :: B, ?_, rfl⟩⟩, ?_⟩
  · rw [Int.toNat_natCast, List.map_append, List.set_append_right _ _ (by simp), List.length_map, Nat.sub_self, List.map_cons, List.set_cons_zero, List.map_append]; rfl
  intro P n ρ dst ty T z s bt pos af gd x y w bl o o' k vs S0 σ0 σ R H hT hi hx ho hy hw hs hk hp hrp
  have H1 := H.unbig
  have hg : gidx ((A ++ (e, u) :: B).map (dsh (α := α) (β := β))) (A.length : Int) = some (Dl.sh e u) := by
    refine gidx_of_map dsh (p := (e, u)) ?_
    unfold gidx
    rw [if_pos (by omega)]
    simp
  rw [Dl.sz (α := α) (β := β)] at hi hk
  obtain ⟨σ', h1, H2, m⟩ := ex_store_own (P := P) (dst := dst) (ty := ty) (pos := pos) (af := af) (gd := gd) (e' := Dl.sh e' u') H1 (i := 0) rfl hT hg hi hx ho hy hw hs hk hp (hrp (σ := σ))
  refine ⟨σ', h1, ?_, m⟩
  rw [hset] at H2
  have H3 := H2.tail
  rw [List.map_append (f := dow lo)] at H3
  have H4 := Hp.bigPut (A := A.map (dow lo)) (c := Ch.own lo lo u' (Dl.inn e')) (B := B.map (dow lo)) (H3.front (i := 1) rfl)
  have H5 : Hp S0 σ0 σ' (Ch.own lo lo v ((A ++ (e', u') :: B).map dsh) :: Ch.big (A.map (dow lo) ++ Ch.own lo lo u' (Dl.inn e') :: B.map (dow lo)) :: R) := by
    refine ⟨H2.md, ⟨H2.all.1, H4.all⟩, ⟨fun j hj hc => ?_, H4.ap⟩, fun j hj => ?_⟩
    · refine H2.ap.1 j hj ?_
      rcases hc with hc | hc
      · rcases cov_append.1 hc with hc | hc | hc
        · refine .inl ?_; rw [List.map_append]; exact cov_append.2 (.inl hc)
        · exact .inr (.inl hc)
        · refine .inl ?_; rw [List.map_append]; exact cov_append.2 (.inr hc)
      · exact .inr (.inr hc)
    · rcases hj with hj | hj
      · exact H2.org j (.inl hj)
      · exact H4.org j hj
  have H6 := H5.bigCons
  rw [List.map_append (f := dow lo), List.map_cons (f := dow lo)]
  exact H6
end

section
variable {α β : Type} [Rp α] [Rp β] [Dl α β] {S0 : BS} {σ0 σ σ' : St} {L K R : List Ch} {lo i m : Nat} {v : Value} {xs : List α}
theorem Ab.big {K : List Ch} (h : AllAb m K) : Ab m (Ch.big K) := fun _ _ hw hv ha => ⟨allAb_as hw h hv ha.1, ha.2⟩
end

section
variable {α β : Type} [Rp α] [Rp β] [Dl α β] {S0 : BS} {σ0 σ σ' : St} {L K R : List Ch} {lo lo' i m : Nat} {v : Value} {xs : List α}
end

section
variable {α : Type} [Rp α] [Sc α] {S0 : BS} {σ0 σ : St} {L R : List Ch} {lo el : Nat} {v : Value} {xs : List α}
end
end Go.Vs

namespace Go.Vs

end Go.Vs

namespace Go.Vs
def iget (m : List (Int × Int)) (k : Int) : Int := match m with
  | [] => 0
  | p :: r => if p.1 = k then p.2 else iget r k
def iput (m : List (Int × Int)) (k v : Int) : List (Int × Int) := match m with
  | [] => [(k, v)]
  | p :: r => if p.1 = k then (k, v) :: r else p :: iput r k v
theorem i_split (k : Int) : ∀ m : List (Int × Int), (∃ A v B, m = A ++ (k, v) :: B ∧ ∀ q ∈ A, q.1 ≠ k) ∨ ∀ q ∈ m, q.1 ≠ k
  | [] => .inr (by simp)
  | p :: r => by
    by_cases h : p.1 = k
    · refine .inl ⟨[], p.2, r, ?_, by simp⟩
      rw [← h]; rfl
    · rcases i_split k r with ⟨A, v, B, rfl, hA⟩ | hr
      · refine .inl ⟨p :: A, v, B, rfl, fun q hq => ?_⟩
        rcases List.mem_cons.1 hq with rfl | hq
        · exact h
        · exact hA q hq
      · refine .inr fun q hq => ?_
        rcases List.mem_cons.1 hq with rfl | hq
        · exact h
        · exact hr q hq
theorem iget_some {A B : List (Int × Int)} {k v : Int} (h : ∀ q ∈ A, q.1 ≠ k) : iget (A ++ (k, v) :: B) k = v := by
  induction A with
  | nil => simp [iget]
  | cons p r ih =>
    simp only [List.cons_append]
    unfold iget
    rw [if_neg (h p (by simp))]
    exact ih fun q hq => h q (by simp [hq])
theorem iget_none {m : List (Int × Int)} {k : Int} (h : ∀ q ∈ m, q.1 ≠ k) : iget m k = 0 := by
  induction m with
  | nil => rfl
  | cons p r ih =>
    unfold iget
    rw [if_neg (h p (by simp))]
    exact ih fun q hq => h q (by simp [hq])
theorem iput_some {A B : List (Int × Int)} {k v w : Int} (h : ∀ q ∈ A, q.1 ≠ k) : iput (A ++ (k, v) :: B) k w = A ++ (k, w) :: B := by
  induction A with
  | nil => simp [iput]
  | cons p r ih =>
    simp only [List.cons_append]
    unfold iput
    rw [if_neg (h p (by simp)), ih fun q hq => h q (by simp [hq])]
theorem iput_none {m : List (Int × Int)} {k w : Int} (h : ∀ q ∈ m, q.1 ≠ k) : iput m k w = m ++ [(k, w)] := by
  induction m with
  | nil => rfl
  | cons p r ih =>
    unfold iput
    rw [if_neg (h p (by simp)), ih fun q hq => h q (by simp [hq])]; rfl
theorem iput_keys {m : List (Int × Int)} {k w : Int} (h : (m.map (·.1)).Nodup) : ((iput m k w).map (·.1)).Nodup := by
  rcases i_split k m with ⟨A, v, B, rfl, hA⟩ | hn
  · rw [iput_some hA]; simpa using h
  · rw [iput_none hn, List.map_append, List.nodup_append]
    refine ⟨h, by simp, fun a ha b hb => ?_⟩
    obtain ⟨q, hq, rfl⟩ := List.mem_map.1 ha
    simp only [List.map_cons, List.map_nil, List.mem_singleton] at hb
    rw [hb]; exact hn q hq
end Go.Vs

namespace Go.Vs
open Go

structure MiOk (E : Array MapEntry) (clk : Nat) (m : List (Int × Int)) : Prop where
  ents : EntsL (m.map fun p => (p.1, I p.2)) E.toList
  keys : (m.map (·.1)).Nodup
  born : ∀ e ∈ E.toList, e.born < clk
  nd : (E.toList.map (·.born)).Nodup
def MiO (O : Obj) (m : List (Int × Int)) : Prop := ∃ E clk, O = .map E clk ∧ MiOk E clk m

/-- A block with just this object. -/
def Ch.ob (lo b : Nat) (O : Obj) : Ch where
  dup := false
  fp i := i = b
  as σ := σ.w.heap[b]? = some O ∧ σ.vis b = 0 ∧ lo ≤ b
  hdup h := by cases h
  hlt h i e := by subst e; exact lt_of_block h.1
  hst m hd h := by
    obtain ⟨h1, h3, h4⟩ := h
    have hb := lt_of_block h1
    have hS := hd _ rfl
    exact ⟨(m.block _ hb hS).trans h1, (m.vis _ hb hS).trans h3, h4⟩

section
variable {S0 : BS} {σ0 σ σ' : St} {L K R : List Ch} {lo lo' el b r i : Nat} {m : List (Int × Int)} {k : Int} {v : Value} {O O' : Obj}
theorem Hp.ob (H : Hp S0 σ0 σ L) (i : Nat) (h : nth L i = some (Ch.ob lo b O)) : σ.w.heap[b]? = some O ∧ σ.vis b = 0 ∧ lo ≤ b := H.get h
theorem turn_ob (O' : Obj) (Hh : Hp S0 σ0 σ (Ch.ob lo b O :: R)) : Hp S0 σ0 (σ.put b O') (Ch.ob lo b O' :: R) ∧ Md (fun i => i = b) σ (σ.put b O') := by
  obtain ⟨h1, h3, h4⟩ := Hh.head
  have hb := lt_of_block h1
  have m : Md (fun i => i = b) σ (σ.put b O') := (St.put_mod h3).md.mono fun i hi => by cases hi; rfl
  exact ⟨Hp.frame1 (A' := [Ch.ob lo b O']) Hh (Hp.one (m.mono fun i hi => .inl hi) ⟨World.put_at _ hb, h3, h4⟩ (fun i hi _ => .inl hi)), m⟩
end

/-! ## Operations -/
section
variable {P : Program} {n : Nat} {ρ : Nat → Value} {dst : Option Nat} {ty T Tk Te : TypeId} {pos : String} {af : Array Edge} {gd : Option (Nat × Bool)} {x y z : Operand} {v' : Value} {b s bt lo lo' el r : Nat} {k : Int} {H : Array Obj}
variable {S0 : BS} {σ0 σ σ' : St} {L K R : List Ch} {m : List (Int × Int)} {O : Obj}
theorem ex_makeMapI (H' : Hp S0 σ0 σ L) (hlo : lo ≤ σ0.size) :
    Ex P σ n ρ ⟨dst, .makeMap T none, ty, pos, af, gd⟩ fun v σ' => ∃ b O, v = .map (some b) ∧ MiO O [] ∧ Hp S0 σ0 σ' (Ch.ob lo b O :: L) ∧ Md (cov []) σ σ' := by
  have m := St.new_mod σ (.map #[] 0) 0
  refine ⟨_, σ.new (.map #[] 0) 0, ?_, σ.size, .map #[] 0, rfl, ⟨#[], 0, rfl, rfl, by simp, by simp, by simp⟩, ?_, m.md0⟩
  · simp [RunW, execOp, Instr.makeMap, newObj, Sem.run, St.new, World.mk']
  · exact Hp.frame0 (A' := [Ch.ob lo σ.size (.map #[] 0)]) H' (Hp.fresh m (Ch.ob lo σ.size (.map #[] 0)) ⟨St.new_new _ _ _, St.new_vis _ _ _, Nat.le_trans hlo H'.size⟩ (fun b hb => Nat.le_of_eq (Eq.symm hb)))
theorem run_updOld {w : World} {E : Array MapEntry} {clk : Nat} {A B : List (Int × Value)} {v : Value} (hT : P.underlying T = some (.map Tk Te)) (hk : P.underlying Tk = some (.int .i64)) (h1 : w.heap[b]? = some (.map E clk))
    (h2 : EntsL (A ++ (k, v) :: B) E.toList) (hA : ∀ p ∈ A, p.1 ≠ k) :
    (Instr.mapUpdate T (.map (some b)) (I k) v').run P w = .ok () (World.put w b (.map (E.modify A.length fun e => { e with key := I k, val := v' }) clk)) := by
  have e1 := run_getMap (P := P) h1
  have e2 := run_checkKey (P := P) (w := w) (k := k) (e := false) hk
  have e3 := run_findKey (P := P) (w := w) (k := k) hk h2
  rw [vfind_some hA] at e3
  have hkey : ((E[A.length]?).map (·.key)).getD (I k) = I k := by
    have hl : A.length < E.toList.length := by
      have := congrArg List.length h2
      simp at this ⊢; omega
    have he : ((E.toList.map fun e => (e.key, e.val)))[A.length]'(by simpa using hl) = (((A ++ (k, v) :: B).map fun p => (I p.1, p.2)))[A.length]'(by simp) := by
      have h2' : E.toList.map (fun e => (e.key, e.val)) = (A ++ (k, v) :: B).map (fun p => (I p.1, p.2)) := h2
      simp only [h2']
    simp only [List.getElem_map, List.getElem_append_right (Nat.le_refl _), Nat.sub_self, List.getElem_cons_zero, Prod.mk.injEq] at he
    have hs : A.length < E.size := by simpa using hl
    rw [Array.getElem?_eq_getElem hs]
    simpa using he.1
  have hstay : (Instr.keyThatStays (I k) (I k)).run P w = .ok (I k) w := by
    have : Instr.sameBits 10000 (I k) (I k) = true := by
      show Instr.sameBits (9999 + 1) (.int .i64 k) (.int .i64 k) = true
      unfold Instr.sameBits; simp
    simp only [Instr.keyThatStays, this, if_true, Sem.run_pure]
  simp only [Nat.zero_add] at e3
  simp only [Instr.mapUpdate, underlying, Sem.run_bind, run_program, Result.andThen_ok, hT, Sem.run_pure, e1, e2, e3, hkey, hstay, run_setMap h1]
theorem run_updNew {w : World} {E : Array MapEntry} {clk : Nat} {es : List (Int × Value)} (hT : P.underlying T = some (.map Tk Te)) (hk : P.underlying Tk = some (.int .i64)) (h1 : w.heap[b]? = some (.map E clk)) (h2 : EntsL es E.toList) (hn : ∀ p ∈ es, p.1 ≠ k) :
    (Instr.mapUpdate T (.map (some b)) (I k) v').run P w = .ok () (World.put w b (.map (E.push { key := I k, val := v', born := clk }) (clk + 1))) := by
  have e1 := run_getMap (P := P) h1
  have e2 := run_checkKey (P := P) (w := w) (k := k) (e := false) hk
  have e3 := run_findKey (P := P) (w := w) (k := k) hk h2
  rw [vfind_none hn] at e3
  simp only [Instr.mapUpdate, underlying, Sem.run_bind, run_program, Result.andThen_ok, hT, Sem.run_pure, e1, e2, e3, run_setMap h1]
theorem born_modify {E : Array MapEntry} {i : Nat} {u v : Value} : (E.modify i fun e => { e with key := u, val := v }).toList.map (·.born) = E.toList.map (·.born) := by
  rw [Array.toList_modify]
  apply List.ext_getElem (by simp)
  intro j h1 h2
  simp only [List.getElem_map, List.getElem_modify]
  split <;> rfl
/-- A number, put into the map. -/
theorem MiO.put (hO : MiO O m) (k w : Int) : ∃ O', MiO O' (iput m k w) ∧ ∀ {P : Program} {n : Nat} {ρ : Nat → Value} {dst : Option Nat} {ty T Tk Te : TypeId} {pos : String} {af : Array Edge} {gd : Option (Nat × Bool)} {x y z : Operand} {lo b : Nat} {S0 : BS} {σ0 σ : St} {R : List Ch},
    Hp S0 σ0 σ (Ch.ob lo b O :: R) → P.underlying T = some (.map Tk Te) → P.underlying Tk = some (.int .i64) → ev n ρ x = .map (some b) → ev n ρ y = I k → ev n ρ z = I w →
    ExS P σ n ρ ⟨dst, .mapUpdate T x y z, ty, pos, af, gd⟩ fun σ' => Hp S0 σ0 σ' (Ch.ob lo b O' :: R) ∧ Md (fun i => i = b) σ σ' := by
  obtain ⟨E, clk, rfl, h⟩ := hO
  rcases i_split k m with ⟨A, v, B, rfl, hA⟩ | hn
  · have hA' : ∀ p ∈ A.map (fun p : Int × Int => (p.1, I p.2)), p.1 ≠ k := by
      intro p hp
      obtain ⟨q, hq, rfl⟩ := List.mem_map.1 hp
      exact hA q hq
    have h2 : EntsL (A.map (fun p : Int × Int => (p.1, I p.2)) ++ (k, I v) :: B.map (fun p : Int × Int => (p.1, I p.2))) E.toList := by
      have := h.ents
      rw [List.map_append, List.map_cons] at this
      exact this
    refine ⟨.map (E.modify (A.map (fun p : Int × Int => (p.1, I p.2))).length fun e => { e with key := I k, val := I w }) clk, ⟨_, _, rfl, ?_, iput_keys h.keys, ?_, ?_⟩, ?_⟩
    · rw [iput_some hA, List.map_append, List.map_cons]
      exact ents_set (v' := I w) h2
    · intro e he
      have : e.born ∈ (E.toList.map (·.born)) := by rw [← born_modify]; exact List.mem_map_of_mem he
      obtain ⟨e', h1, h3⟩ := List.mem_map.1 this
      rw [← h3]; exact h.born e' h1
    · rw [born_modify]; exact h.nd
    · intro P n ρ dst ty T Tk Te pos af gd x y z lo b S0 σ0 σ R H hT hk hx hy hz
      obtain ⟨h1, _, _⟩ := H.head
      have hr := run_updOld (P := P) (v' := I w) hT hk h1 h2 hA'
      obtain ⟨H2, m2⟩ := turn_ob (.map (E.modify (A.map (fun p : Int × Int => (p.1, I p.2))).length fun e => { e with key := I k, val := I w }) clk) H
      exact ⟨_, by simp [RunS, execOp, hx, hy, hz, hr, St.put], H2, m2⟩
  · have hn' : ∀ p ∈ m.map (fun p : Int × Int => (p.1, I p.2)), p.1 ≠ k := by
      intro p hp
      obtain ⟨q, hq, rfl⟩ := List.mem_map.1 hp
      exact hn q hq
    refine ⟨.map (E.push { key := I k, val := I w, born := clk }) (clk + 1), ⟨_, _, rfl, ?_, iput_keys h.keys, ?_, ?_⟩, ?_⟩
    · rw [iput_none hn, List.map_append]
      exact ents_push h.ents
    · intro e he
      rw [Array.toList_push] at he
      rcases List.mem_append.1 he with he | he
      · exact Nat.lt_succ_of_lt (h.born e he)
      · rw [List.mem_singleton.1 he]; exact Nat.lt_succ_self _
    · rw [Array.toList_push, List.map_append, List.nodup_append]
      refine ⟨h.nd, by simp, fun a ha c hc => ?_⟩
      obtain ⟨e, he, rfl⟩ := List.mem_map.1 ha
      simp only [List.map_cons, List.map_nil, List.mem_singleton] at hc
      have := h.born e he
      omega
    · intro P n ρ dst ty T Tk Te pos af gd x y z lo b S0 σ0 σ R H hT hk hx hy hz
      obtain ⟨h1, _, _⟩ := H.head
      have hr := run_updNew (P := P) (v' := I w) hT hk h1 h.ents hn'
      obtain ⟨H2, m2⟩ := turn_ob (.map (E.push { key := I k, val := I w, born := clk }) (clk + 1)) H
      exact ⟨_, by simp [RunS, execOp, hx, hy, hz, hr, St.put], H2, m2⟩
theorem rv_lookupI (hO : MiO O m) (hT : P.underlying T = some (.map Tk Te)) (hk : P.underlying Tk = some (.int .i64)) (hz : TI P Te (I 0) s bt) (hx : ev n ρ x = .map (some b)) (hy : ev n ρ y = I k) (hb : H[b]? = some O) :
    RunV P H n ρ ⟨dst, .lookup T x y false, ty, pos, af, gd⟩ (I (iget m k)) := fun w hw => by
  obtain ⟨E, clk, rfl, h⟩ := hO
  rw [← hw] at hb
  have e1 := run_getMap (P := P) hb
  have e2 := run_checkKey (P := P) (w := w) (k := k) (e := E.isEmpty) hk
  have e3 := run_findKey (P := P) (w := w) (k := k) hk h.ents
  have e4 := run_zero hz w
  rcases i_split k m with ⟨A, v, B, rfl, hA⟩ | hn
  · have hA' : ∀ p ∈ A.map (fun p : Int × Int => (p.1, I p.2)), p.1 ≠ k := by
      intro p hp
      obtain ⟨q, hq, rfl⟩ := List.mem_map.1 hp
      exact hA q hq
    rw [iget_some hA]
    rw [List.map_append, List.map_cons, vfind_some hA'] at e3
    simp [execOp, hx, hy, Instr.lookup, underlying, hT, e1, e2, e3]
  · have hn' : ∀ p ∈ m.map (fun p : Int × Int => (p.1, I p.2)), p.1 ≠ k := by
      intro p hp
      obtain ⟨q, hq, rfl⟩ := List.mem_map.1 hp
      exact hn q hq
    rw [iget_none hn]
    rw [vfind_none hn'] at e3
    simp [execOp, hx, hy, Instr.lookup, underlying, hT, e1, e2, e3, e4]
end

/-! ## A variable that holds a map -/
structure MRef where
  b : Nat
instance : Rp MRef where
  sz := 1
  rp _ _ cs x := cs = [.map (some x.b)]
  pos := by decide
  len := by rintro _ _ _ _ rfl; rfl
  extL := fun _ h => h
  low := fun _ h => h
  one := by rintro _ _ _ _ rfl; simp [plain]
theorem At.mref {el : Nat} {σ : St} {b o : Nat} {x : MRef} (h : At el σ b o x) : HCell σ.w.heap b o = some (.map (some x.b)) := by
  obtain ⟨cs, rfl, h2⟩ := h
  rw [HCell_eq]; exact h2 0 (by simp)
/-- What ends as it began has not turned. -/
theorem Md.exact {σ σ' : St} {b : Nat} {O : Obj} (m : Md (fun i => i = b) σ σ') (h : σ.w.heap[b]? = some O) (hv : σ.vis b = 0) (h' : σ'.w.heap[b]? = some O) (hv' : σ'.vis b = 0) : Md (fun _ => False) σ σ' :=
  ⟨m.os, m.tape, m.output, m.dr, m.ext, fun i hi _ => by
    by_cases e : i = b
    · subst e; rw [h, h']
    · exact m.block i hi e, fun i hi _ => by
    by_cases e : i = b
    · subst e; rw [hv, hv']
    · exact m.vis i hi e⟩

/-! ## A range over a map -/
structure ItR (E : Array MapEntry) (seen : Array Nat) (pre : List Int) (S : List MapEntry) : Prop where
  seen : seen.toList = S.map (·.born)
  sub : ∀ e ∈ S, e ∈ E.toList
  nd : (S.map (·.born)).Nodup
  pre : pre.map I = S.map (·.key)
theorem ItR.start {E : Array MapEntry} : ItR E #[] [] [] := ⟨rfl, by simp, by simp, rfl⟩
theorem MiOk.keyI {E : Array MapEntry} {clk : Nat} {m : List (Int × Int)} (h : MiOk E clk m) {e : MapEntry} (he : e ∈ E.toList) : ∃ x y, e.key = I x ∧ e.val = I y ∧ (x, y) ∈ m := by
  have h1 : (e.key, e.val) ∈ E.toList.map (fun e => (e.key, e.val)) := List.mem_map_of_mem he
  have h2 : E.toList.map (fun e => (e.key, e.val)) = (m.map fun p => (p.1, I p.2)).map (fun p => (I p.1, p.2)) := h.ents
  rw [h2] at h1
  obtain ⟨q, hq, e1⟩ := List.mem_map.1 h1
  obtain ⟨p, hp, rfl⟩ := List.mem_map.1 hq
  simp only [Prod.mk.injEq] at e1
  exact ⟨p.1, p.2, e1.1.symm, e1.2.symm, hp⟩
theorem ItR.step {E : Array MapEntry} {seen : Array Nat} {pre : List Int} {S : List MapEntry} (h : ItR E seen pre S) {e : MapEntry} {x : Int} (he : e ∈ (leftOf E seen).toList) (hx : e.key = I x) :
    ItR E (seen.push e.born) (pre ++ [x]) (S ++ [e]) ∧ e ∈ E.toList := by
  unfold leftOf at he
  rw [Array.toList_filter, List.mem_filter] at he
  obtain ⟨h1, h2⟩ := he
  have hn : e.born ∉ S.map (·.born) := by
    rw [← h.seen]
    intro hm
    have : seen.contains e.born = true := by rw [Array.contains_iff_mem]; exact Array.mem_toList_iff.1 hm
    rw [this] at h2; cases h2
  refine ⟨⟨by rw [Array.toList_push, h.seen, List.map_append]; rfl, fun e' he' => ?_, ?_, by rw [List.map_append, List.map_append, h.pre]; simp [hx]⟩, h1⟩
  · rcases List.mem_append.1 he' with he' | he'
    · exact h.sub e' he'
    · rw [List.mem_singleton.1 he']; exact h1
  · rw [List.map_append, List.nodup_append]
    refine ⟨h.nd, by simp, fun a ha c hc => ?_⟩
    simp only [List.map_cons, List.map_nil, List.mem_singleton] at hc
    rw [hc]; intro e2; exact hn (e2 ▸ ha)
theorem map_I_perm {l l' : List Int} (h : (l.map I).Perm (l'.map I)) : l.Perm l' := by
  have := h.map (fun v : Value => match v with | .int _ n => n | _ => 0)
  simpa [List.map_map, Function.comp_def, I] using this
theorem ents_keys {m : List (Int × Int)} {E : List MapEntry} (h : EntsL (m.map fun p => (p.1, I p.2)) E) : E.map (·.key) = (m.map (·.1)).map I := by
  have := congrArg (List.map Prod.fst) (show E.map (fun e => (e.key, e.val)) = (m.map fun p => (p.1, I p.2)).map (fun p => (I p.1, p.2)) from h)
  simpa [List.map_map, Function.comp_def] using this
theorem sub_perm {α : Type} {l m : List α} (hl : l.Nodup) (hm : m.Nodup) (h1 : ∀ x ∈ l, x ∈ m) (h2 : ∀ x ∈ m, x ∈ l) : l.Perm m := (List.perm_ext_iff_of_nodup hl hm).2 fun x => ⟨h1 x, h2 x⟩
theorem ItR.nodup {E : Array MapEntry} {seen : Array Nat} {pre : List Int} {S : List MapEntry} (h : ItR E seen pre S) : S.Nodup := List.Pairwise.of_map (·.born) (fun a b h e => h (congrArg _ e)) h.nd
theorem ItR.done {E : Array MapEntry} {clk : Nat} {m : List (Int × Int)} {seen : Array Nat} {pre : List Int} {S : List MapEntry} (h : ItR E seen pre S) (hm : MiOk E clk m) (h0 : (leftOf E seen).size = 0) : pre.Perm (m.map (·.1)) := by
  have hE : E.toList.Nodup := List.Pairwise.of_map (·.born) (fun a b h e => h (congrArg _ e)) hm.nd
  have hall : ∀ e ∈ E.toList, e ∈ S := by
    intro e he
    have hc : seen.contains e.born = true := by
      cases hq : seen.contains e.born with
      | true => rfl
      | false =>
        have : e ∈ (leftOf E seen).toList := by
          unfold leftOf
          rw [Array.toList_filter, List.mem_filter]
          exact ⟨he, by rw [hq]; rfl⟩
        have h1 : (leftOf E seen).toList = [] := by simpa [Array.toList_eq_nil_iff] using Array.eq_empty_of_size_eq_zero h0
        rw [h1] at this; cases this
    have hb : e.born ∈ S.map (·.born) := by rw [← h.seen]; exact Array.mem_toList_iff.2 (Array.contains_iff_mem.1 hc)
    obtain ⟨e', h1, h2⟩ := List.mem_map.1 hb
    have : e' = e := by
      have hp := hm.nd
      obtain ⟨i, hi, rfl⟩ := List.mem_iff_getElem.1 he
      obtain ⟨j, hj, e3⟩ := List.mem_iff_getElem.1 (h.sub e' h1)
      rw [List.nodup_iff_pairwise_ne, List.pairwise_iff_getElem] at hp
      rcases Nat.lt_trichotomy i j with hlt | rfl | hlt
      · have := hp i j (by simpa using hi) (by simpa using hj) hlt
        simp only [List.getElem_map] at this
        rw [e3] at this; exact absurd h2.symm this
      · exact e3.symm
      · have := hp j i (by simpa using hj) (by simpa using hi) hlt
        simp only [List.getElem_map] at this
        rw [e3] at this; exact absurd h2 this
    rw [← this]; exact h1
  have hp : S.Perm E.toList := sub_perm h.nodup hE h.sub hall
  refine map_I_perm ?_
  rw [h.pre, ← ents_keys hm.ents]
  exact hp.map _
theorem len_subN : ∀ {l m : List Nat}, l.Nodup → (∀ x ∈ l, x ∈ m) → l.length ≤ m.length
  | [], m, _, _ => Nat.zero_le _
  | x :: t, m, hn, hs => by
    obtain ⟨h1, h2⟩ := List.nodup_cons.1 hn
    have hx : x ∈ m := hs x (by simp)
    have := len_subN (m := m.erase x) h2 (fun y hy => (List.mem_erase_of_ne (by rintro rfl; exact h1 hy)).2 (hs y (by simp [hy])))
    rw [List.length_erase_of_mem hx] at this
    have : 0 < m.length := List.length_pos_of_mem hx
    simp only [List.length_cons]; omega
theorem ItR.len {E : Array MapEntry} {clk : Nat} {m : List (Int × Int)} {seen : Array Nat} {pre : List Int} {S : List MapEntry} (h : ItR E seen pre S) (hm : MiOk E clk m) : pre.length ≤ m.length := by
  have h1 : pre.length = S.length := by have := congrArg List.length h.pre; simpa using this
  have h2 : E.toList.length = m.length := by have := congrArg List.length (ents_keys hm.ents); simpa using this
  have h3 := len_subN (m := E.toList.map (·.born)) h.nd (fun b hb => by
    obtain ⟨e, he, rfl⟩ := List.mem_map.1 hb
    exact List.mem_map_of_mem (h.sub e he))
  simp only [List.length_map] at h3
  omega
section
variable {P : Program} {n : Nat} {ρ : Nat → Value} {dst : Option Nat} {ty T Tk Te : TypeId} {pos : String} {af : Array Edge} {gd : Option (Nat × Bool)} {x : Operand} {b lo lo' r since c0 clk : Nat}
variable {S0 : BS} {σ0 σ σ' : St} {L R : List Ch} {E : Array MapEntry} {seen : Array Nat}
theorem ex_range (H : Hp S0 σ0 σ L) (hlo : lo ≤ σ0.size) (hT : P.underlying T = some (.map Tk Te)) (hx : ev n ρ x = .map (some b)) (hb : σ.w.heap[b]? = some (.map E clk)) :
    Ex P σ n ρ ⟨dst, .range T x, ty, pos, af, gd⟩ fun v σ' => ∃ r, v = .pointer (some ⟨r, 0, none⟩) ∧ Hp S0 σ0 σ' (Ch.ob lo r (.mapIter (some b) clk #[] clk) :: L) ∧ Md (cov []) σ σ' := by
  have m := St.new_mod σ (.mapIter (some b) clk #[] clk) 0
  have e1 := run_getMap (P := P) hb
  refine ⟨_, σ.new (.mapIter (some b) clk #[] clk) 0, ?_, σ.size, rfl, ?_, m.md0⟩
  · simp [RunW, execOp, Instr.range, underlying, hT, hx, e1, newObj, Sem.run, St.new, World.mk']
  · exact Hp.frame0 (A' := [Ch.ob lo σ.size (.mapIter (some b) clk #[] clk)]) H (Hp.fresh m (Ch.ob lo σ.size (.mapIter (some b) clk #[] clk)) ⟨St.new_new _ _ _, St.new_vis _ _ _, Nat.le_trans hlo H.size⟩ (fun b hb => Nat.le_of_eq (Eq.symm hb)))
theorem ex_next (H : Hp S0 σ0 σ (Ch.ob lo r (.mapIter (some b) since seen c0) :: R)) (hx : ev n ρ x = .pointer (some ⟨r, 0, none⟩)) (hb : σ.w.heap[b]? = some (.map E clk)) (hold : ∀ e ∈ E.toList, e.born < since) (hsc : since ≤ c0) :
    Ex P σ n ρ ⟨dst, .next x false, ty, pos, af, gd⟩ fun v σ' => ((leftOf E seen).size = 0 ∧ v = .tuple #[.bool false] ∧ Hp S0 σ0 σ' (Ch.ob lo r (.mapIter (some b) since seen c0) :: R)) ∨
      ∃ e ∈ (leftOf E seen).toList, v = .tuple #[.bool true, e.key, e.val] ∧ Hp S0 σ0 σ' (Ch.ob lo r (.mapIter (some b) since (seen.push e.born) clk) :: R) := by
  obtain ⟨h1, h2, h3⟩ := H.head
  rcases run_next_at (P := P) σ.w ty r b since c0 seen E clk h1 hb hold hsc with ⟨h0, hr⟩ | ⟨e, he, w1, hw, hr⟩
  · exact ⟨_, σ, by simp [RunW, execOp, hx, hr], .inl ⟨h0, rfl, H⟩⟩
  · rcases hw with rfl | rfl
    · obtain ⟨H2, _⟩ := turn_ob (.mapIter (some b) since (seen.push e.born) clk) H
      exact ⟨_, σ.put r (.mapIter (some b) since (seen.push e.born) clk), by simp [RunW, execOp, hx, hr, St.put]; rfl, .inr ⟨e, he, rfl, H2⟩⟩
    · have hd : Md (fun _ => False) σ ⟨σ.w.drew, σ.vis, σ.ok⟩ := ⟨rfl, rfl, rfl, Nat.le_succ _, ⟨Nat.le_refl _, fun _ _ _ => rfl, fun _ => Nat.le_refl _⟩, fun _ _ _ => rfl, fun _ _ _ => rfl⟩
      have H1 := H.grow hd
      obtain ⟨H2, _⟩ := turn_ob (.mapIter (some b) since (seen.push e.born) clk) H1
      exact ⟨_, St.put ⟨σ.w.drew, σ.vis, σ.ok⟩ r (.mapIter (some b) since (seen.push e.born) clk), by simp [RunW, execOp, hx, hr, St.put]; rfl, .inr ⟨e, he, rfl, H2⟩⟩
theorem rv_entry {Hh : Array Obj} {e : MapEntry} (hx : ev n ρ x = .pointer (some ⟨r, 0, none⟩)) (hr : Hh[r]? = some (.mapIter (some b) since (seen.push e.born) clk)) (hb : Hh[b]? = some (.map E clk)) (he : e ∈ E.toList) (hn : (E.toList.map (·.born)).Nodup) :
    RunV P Hh n ρ ⟨dst, .entry x, ty, pos, af, gd⟩ (.tuple #[e.key, e.val]) := fun w hw => by
  subst hw
  have := run_entry_at (P := P) w r b since seen E clk e hr hb he hn
  simp [execOp, hx, this]
end
end Go.Vs

namespace Go.Vs
open Go

section
variable {P : Program} {S0 : BS} {σ0 σ : St} {L : List Ch}
theorem Hp.swapA {A B : List Ch} (H : Hp S0 σ0 σ (A ++ B)) : Hp S0 σ0 σ (B ++ A) := by
  obtain ⟨h1, h2, h3⟩ := apart_append.1 H.ap
  exact ⟨H.md, allAs_append.2 ((allAs_append.1 H.all).symm), apart_append.2 ⟨h2, h1, fun b hb hb' => h3 b hb' hb⟩, fun b hb => H.org b (cov_append.2 ((cov_append.1 hb).symm))⟩
theorem Hp.here {A R : List Ch} (H : Hp S0 σ0 σ (A ++ R)) : Hp (cov A) σ σ A := Hp.begin (allAs_append.1 H.all).1 (apart_append.1 H.ap).1
/-- **A range over a function**, whose rounds all go on, in whatever order: St t e t': from t on a round may come that hands over e; what the function itself holds (R) stays. -/
theorem wp_rangeS {g : Operand} {ps : Array Tmp} {assign body : Code} {Q : Exit → Act → World → Prop} {a : Act} {gf : Nat} {lb : Array Value} {T : Type} {t0 : T} (Sp : T → Array Value → T → Prop) (Fin : T → Prop)
    (hg : a.eval g = .func (.func gf) #[] lb) (eg : ∀ args w, (callFunc gf args).run P w = .ok (.enter gf args) w) (hps : ∀ t e t', Sp t e t' → e.size = ps.size)
    (K : T → List Ch → Prop) (hK : K t0 L) (H : Hp S0 σ0 σ L)
    (hseq : ∀ (l : Nat) (F : T → List Ch → Prop), (∀ {t L0}, F t L0 → ∃ L R, K t L ∧ L0 = R ++ L) →
      (∀ t e t', Sp t e t' → ∀ σ L0 R, F t L0 → Hp S0 σ0 σ (L0 ++ R) → YieldAt Fence.wide 0 P l e σ.w fun e W' => e = .returned (.bool true) ∧ ∃ σ' L0', W' = σ'.w ∧ F t' L0' ∧ Hp S0 σ0 σ' (L0' ++ R)) →
      ∀ σ L0, F t0 L0 → Hp S0 σ0 σ L0 → CallsIn Fence.wide 0 P gf (#[.func (.yield l) #[] #[]] ++ lb) σ.w fun e W' => (∃ v, e = .returned v) ∧ ∃ t σ' L0', Fin t ∧ W' = σ'.w ∧ F t L0' ∧ Hp S0 σ0 σ' L0')
    (hbody : ∀ (S0 : BS) (σb : St), σ0.size ≤ σb.size → ∀ (l D : Nat) (i : T) (en : Array Value) (i' : T) (r r' : Loop), Sp i en i' → ∀ σ L, K i L → Hp S0 σb σ (Ch.lp l r :: Ch.df D :: L) →
      assign.wpIn (Fz (some l)) 0 P (Exit.then (fun a₁ w₁ => ∃ σ1 L1, w₁ = σ1.w ∧ Hp S0 σb σ1 (Ch.lp l r :: Ch.df D :: L1) ∧ ∀ σ2, Hp S0 σb σ2 (Ch.lp l r' :: Ch.df D :: L1) →
        body.wpIn (Fz (some l)) 0 P (fun e _ w => e = .normal ∧ ∃ σ3 L3, w = σ3.w ∧ K i' L3 ∧ Hp S0 σb σ3 (Ch.lp l r' :: Ch.df D :: L3)) a₁ σ2.w) (fun _ _ _ => False))
        { tmps := (ps.zip en).foldl (fun t (p, v) => t.setIfInBounds p v) a.tmps, defers := [] } σ.w)
    (hdone : ∀ (D : Nat) σ' L' t, Fin t → K t L' → Hp S0 σ0 σ' (Ch.df D :: L') → Q .normal { a with defers := { target := .collected D, args := #[] } :: a.defers } σ'.w) :
    (Code.rangeFunc g ps assign body).wpIn (Fz none) 0 P Q a σ.w := by
  refine wpIn_rangeFunc ?_
  intro fn hfn
  obtain ⟨rec, hrec⟩ : ∃ rec : LoopState → Option Code → Loop, rec = fun st pe => { state := st, pending := pe, fn, tmps := a.tmps, params := ps, assign, body, defers := σ.w.heap.size } := ⟨_, rfl⟩
  have H1 := (H.newDf).newLp (rec .ready none)
  generalize hσ1 : (σ.new (.deferred (some [])) 0).new (.loop (rec .ready none)) 0 = σ1 at H1
  have hs : (σ.new (.deferred (some [])) 0).size = σ.w.heap.size + 1 := St.new_size _ _ _
  rw [hs] at H1
  have hsz : σ.size = σ.w.heap.size := rfl
  rw [hsz] at H1
  generalize hl : σ.w.heap.size + 1 = l at *
  generalize hD : σ.w.heap.size = D at *
  refine ⟨l, [{ target := .collected D, args := #[] }], σ1.w, { target := .fn (.func gf) lb, args := #[.func (.yield l) #[] #[]] }, σ1.w, gf, #[.func (.yield l) #[] #[]] ++ lb, σ1.w, ?_, ?_, ?_, ?_, fun h => (by cases h), ?_⟩
  · have := run_enterLoop_outer (P := P) (w := σ.w) fn a.tmps ps assign body
    rw [this, ← hσ1, hrec, hD, hl]
    rfl
  · simp only [resolve, hg]
    simp [go_sem]
  · intro f' hf'; trivial
  · simp [invoke, go_sem, eg]
  · refine (hseq l (fun i L0 => ∃ L, K i L ∧ L0 = Ch.lp l (rec .ready none) :: Ch.df D :: L) (fun ⟨L, h1, h2⟩ => ⟨L, [_, _], h1, h2⟩) ?_ σ1 _ ⟨L, hK, rfl⟩ H1).mono ?_
    · rintro i en i' hi σ2 L0 R ⟨L2, hK2, rfl⟩ H2
      have Hb := H2.here
      have hl2 := H2.all.1.1
      have hy := run_yield (P := P) (args := en) hl2 (by rw [hrec]; exact hps i en i' hi)
      rw [hrec] at hy
      refine ⟨fn, _, assign, body, hy, roundIn_of_wpIn hfn ?_⟩
      refine wpIn_mono (hbody _ σ2 H2.size l D i en i' (rec .ready none) { rec .ready none with state := .busy } hi σ2 L2 hK2 Hb) ?_
      intro e a1 w1 hq
      cases e with
      | normal =>
        obtain ⟨σ3, L3, rfl, H3, hb⟩ := hq
        refine ⟨_, run_beginRound H3.all.1.1 (by rw [hrec]), ?_⟩
        have H4 := H3.setLp { rec .ready none with state := .busy }
        refine wpIn_mono (hb _ H4) ?_
        rintro e a3 w3 ⟨rfl, σ5, L5, rfl, hK5, H5⟩
        refine ⟨_, _, run_endRound none H5.all.1.1, rfl, σ5.put l (.loop (rec .ready none)), _, ?_, ⟨L5, hK5, rfl⟩, H2.frame (H5.setLp _)⟩
        rw [hrec]; rfl
      | ret => exact hq.elim
      | exit id => exact hq.elim
      | goto t => exact hq.elim
      | panic ch => exact hq.elim
      | outgrown => exact hq.elim
    · rintro e W2 ⟨⟨v, rfl⟩, tN, σ2, _, hfin, rfl, ⟨L2, hK2, rfl⟩, H2⟩
      refine ⟨none, _, ?_, hdone D _ L2 tN hfin hK2 (H2.setLp { rec .ready none with state := .exhausted }).tail⟩
      have := run_endLoop (P := P) H2.all.1.1 (by rw [hrec]; simp)
      rw [hrec] at this ⊢
      exact this
end
end Go.Vs
