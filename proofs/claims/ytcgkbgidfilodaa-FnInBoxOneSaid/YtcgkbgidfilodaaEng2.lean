/- What a function of the program does to its memory, step by step. -/
import Derived.Test.YtcgkbgidfilodaaEng1
import Derived.RangeFuncLeaves
import Derived.RangeFuncSeq
import Derived.TacticsIn
import Derived.Sort.LoopGhostIn
set_option linter.unusedVariables false
set_option linter.unusedSimpArgs false
namespace Go.Vs
open Go

/-- The fence that lets everything in: outside of rounds, or in one. -/
abbrev Fz (r : Option Nat) : Fence := { Fence.wide with round := r }

section
variable {P : Program} {ops : Array Oper} {Q : Exit → Act → World → Prop} {n d : Nat} {ρ : Nat → Value} {σ σ0 : St} {w : World} {v : Value} {rest : List Oper} {r : Option Nat}
variable {op : Op} {ty : TypeId} {pos : String} {af : Array Edge} {gd : Option (Nat × Bool)}

theorem stI (hnd : ∀ c, op ≠ .defer c) (hr : RunV P w.heap n ρ ⟨some d, op, ty, pos, af, none⟩ v) (k : wpListIn (Fz r) 0 P ops Q rest (fr n (upd ρ d v)) w) :
    wpListIn (Fz r) 0 P ops Q (⟨some d, op, ty, pos, af, none⟩ :: rest) (fr n ρ) w := by
  unfold wpListIn
  rw [if_pos (by rw [yielded_fr]; exact wanted_none _ rfl _)]
  refine ⟨fun _ _ => trivial, ?_⟩
  rw [Oper.semAt_eq _ _ _ hnd, fr_eval, hr w rfl]
  simp only [Oper.uponIn_value, fr_put]
  exact k
theorem stI_ex {Rz : Value → St → Prop} (hnd : ∀ c, op ≠ .defer c) (he : Ex P σ n ρ ⟨some d, op, ty, pos, af, none⟩ Rz)
    (k : ∀ v (σ' : St), Rz v σ' → wpListIn (Fz r) 0 P ops Q rest (fr n (upd ρ d v)) σ'.w) : wpListIn (Fz r) 0 P ops Q (⟨some d, op, ty, pos, af, none⟩ :: rest) (fr n ρ) σ.w := by
  obtain ⟨v, σ', h1, h2⟩ := he
  unfold wpListIn
  rw [if_pos (by rw [yielded_fr]; exact wanted_none _ rfl _)]
  refine ⟨fun _ _ => trivial, ?_⟩
  have h1' : (execOp (ev n ρ) ⟨some d, op, ty, pos, af, none⟩).run P σ.w = .ok (.value v) σ'.w := h1
  rw [Oper.semAt_eq _ _ _ hnd, fr_eval, h1']
  simp only [Oper.uponIn_value, fr_put]
  exact k v σ' h2
theorem stI_exS {Rs : St → Prop} (hnd : ∀ c, op ≠ .defer c) (he : ExS P σ n ρ ⟨none, op, ty, pos, af, none⟩ Rs)
    (k : ∀ (σ' : St), Rs σ' → wpListIn (Fz r) 0 P ops Q rest (fr n ρ) σ'.w) : wpListIn (Fz r) 0 P ops Q (⟨none, op, ty, pos, af, none⟩ :: rest) (fr n ρ) σ.w := by
  obtain ⟨σ', h1, h2⟩ := he
  unfold wpListIn
  rw [if_pos (by rw [yielded_fr]; exact wanted_none _ rfl _)]
  refine ⟨fun _ _ => trivial, ?_⟩
  have h1' : (execOp (ev n ρ) ⟨none, op, ty, pos, af, none⟩).run P σ.w = .ok .skip σ'.w := h1
  rw [Oper.semAt_eq _ _ _ hnd, fr_eval, h1']
  simp only [Oper.uponIn_skip, fr_put_none]
  exact k σ' h2
/-- The call of yield. -/
theorem stI_yield {xs : Array Operand} {Ts : Array TypeId} {y : Operand} {l : Nat} {args : List Value} {R : Ending → World → Prop} (hf : ev n ρ y = .func (.yield l) #[] #[]) (hx : xs.toList.map (ev n ρ) = args) (hy : YieldAt Fence.wide 0 P l args.toArray w R)
    (k : ∀ e w', R e w' → ∃ v, e = .returned v ∧ wpListIn (Fz r) 0 P ops Q rest (fr n (upd ρ d v)) w') :
    wpListIn (Fz r) 0 P ops Q (⟨some d, .call ⟨.value y, xs, Ts⟩, ty, pos, af, none⟩ :: rest) (fr n ρ) w := by
  obtain ⟨fn, tmps, assign, body, h1, h2⟩ := hy
  unfold wpListIn
  rw [if_pos (by rw [yielded_fr]; exact wanted_none _ rfl _)]
  refine ⟨fun _ _ => trivial, ?_⟩
  rw [Oper.semAt_eq _ _ _ (fun c h => by cases h), fr_eval]
  have hx' : xs.map (ev n ρ) = args.toArray := by rw [← hx, ← Array.toList_map]
  have h3 : (execOp (ev n ρ) ⟨some d, .call ⟨.value y, xs, Ts⟩, ty, pos, af, none⟩).run P w = .ok (.round l fn tmps assign body) w := by
    simp only [execOp, resolve, hf, Deferred.ofValue, Sem.run_bind, Sem.run_pure, Result.andThen_ok, invoke, hx']
    simp [h1]
  rw [h3, Oper.uponIn_round]
  refine ⟨fun h => (by cases h), ?_⟩
  have h2' : RoundIn (Fz r) 0 P l fn tmps assign body w R := h2
  refine h2'.mono ?_
  intro e w' hR
  obtain ⟨v, rfl, hk⟩ := k e w' hR
  simp only [fr_put]
  exact hk
theorem endI (h : Q .normal (fr n ρ) w) : wpListIn (Fz r) 0 P ops Q [] (fr n ρ) w := h
theorem rgI {id : Nat} {l : List Oper} (h : wpListIn (Fz r) 0 P l.toArray Q l (fr n ρ) w) : (Code.region id l.toArray false).wpIn (Fz r) 0 P Q (fr n ρ) w := wpIn_region_lit h
theorem cdI_cond {c : Operand} {x y : Code} (b : Bool) (hc : ev n ρ c = .bool b) (ht : b = true → x.wpIn (Fz r) 0 P Q (fr n ρ) w) (hf : b = false → y.wpIn (Fz r) 0 P Q (fr n ρ) w) :
    (Code.cond c x y).wpIn (Fz r) 0 P Q (fr n ρ) w := wpIn_cond_split (by rw [fr_eval]; exact hc) ht hf
end

/-- The record of a loop. -/
def Ch.lp (l : Nat) (r : Loop) : Ch where
  dup := false
  fp i := i = l
  as σ := σ.w.heap[l]? = some (.loop r) ∧ σ.vis l = 0
  hdup h := by cases h
  hlt h i e := by subst e; exact lt_of_block h.1
  hst m hd h := by
    have hb := lt_of_block h.1
    have hS := hd l rfl
    exact ⟨(m.block l hb hS).trans h.1, (m.vis l hb hS).trans h.2⟩
/-- The block for the calls that its rounds defer. -/
def Ch.df (l : Nat) : Ch where
  dup := false
  fp i := i = l
  as σ := σ.w.heap[l]? = some (.deferred (some [])) ∧ σ.vis l = 0
  hdup h := by cases h
  hlt h i e := by subst e; exact lt_of_block h.1
  hst m hd h := by
    have hb := lt_of_block h.1
    have hS := hd l rfl
    exact ⟨(m.block l hb hS).trans h.1, (m.vis l hb hS).trans h.2⟩

section
variable {P : Program} {S0 : BS} {σ0 σ : St} {L : List Ch}
theorem Hp.newLp (H : Hp S0 σ0 σ L) (r : Loop) : Hp S0 σ0 (σ.new (.loop r) 0) (Ch.lp σ.size r :: L) :=
  Hp.frame0 (A' := [Ch.lp σ.size r]) H (Hp.fresh (St.new_mod _ _ _) _ ⟨St.new_new _ _ _, St.new_vis _ _ _⟩ (fun b hb => Nat.le_of_eq (Eq.symm hb)))
theorem Hp.newDf (H : Hp S0 σ0 σ L) : Hp S0 σ0 (σ.new (.deferred (some [])) 0) (Ch.df σ.size :: L) :=
  Hp.frame0 (A' := [Ch.df σ.size]) H (Hp.fresh (St.new_mod _ _ _) _ ⟨St.new_new _ _ _, St.new_vis _ _ _⟩ (fun b hb => Nat.le_of_eq (Eq.symm hb)))
theorem Hp.setLp {l : Nat} {r : Loop} (H : Hp S0 σ0 σ (Ch.lp l r :: L)) (r' : Loop) : Hp S0 σ0 (σ.put l (.loop r')) (Ch.lp l r' :: L) := by
  have h := H.all.1
  refine Hp.frame1 (A' := [Ch.lp l r']) H (Hp.one ((St.put_mod h.2).md.mono fun i hi => .inl ?_) ⟨World.put_at _ (lt_of_block h.1), h.2⟩ (fun b hb _ => .inl hb))
  exact (Option.some.inj hi).symm
theorem Hp.putDf {l : Nat} (H : Hp S0 σ0 σ (Ch.df l :: L)) (o : Obj) : Hp S0 σ0 (σ.put l o) L := by
  have h := H.all.1
  refine Hp.frame1 (A' := []) H ⟨(St.put_mod h.2).md.mono fun i hi => .inl ?_, trivial, trivial, fun b hb => hb.elim⟩
  exact (Option.some.inj hi).symm

theorem Hp.drop : ∀ (R : List Ch) {L : List Ch}, Hp S0 σ0 σ (R ++ L) → Hp S0 σ0 σ L
  | [], _, H => H
  | _ :: R, _, H => Hp.drop R H.tail
/-- **A range over a function**, whose rounds all go on: the chunks that lie between two rounds. -/
theorem wp_rangeF {g : Operand} {ps : Array Tmp} {assign body : Code} {Q : Exit → Act → World → Prop} {a : Act} {gf : Nat} {lb : Array Value} {N : Nat} {encs : Nat → Array Value}
    (hg : a.eval g = .func (.func gf) #[] lb) (eg : ∀ args w, (callFunc gf args).run P w = .ok (.enter gf args) w) (hps : ∀ i, i < N → (encs i).size = ps.size)
    (K : Nat → List Ch → Prop) (hK : K 0 L) (H : Hp S0 σ0 σ L)
    (hseq : ∀ (l : Nat) (J : Nat → St → Prop), (∀ {i σ σ'}, J i σ → Md (fun _ => False) σ σ' → J i σ') → (∀ {i σ}, J i σ → ∃ L R, K i L ∧ Hp S0 σ0 σ (R ++ L)) →
      (∀ i, i < N → ∀ σ, J i σ → YieldAt Fence.wide 0 P l (encs i) σ.w fun e W' => e = .returned (.bool true) ∧ ∃ σ', W' = σ'.w ∧ J (i + 1) σ') →
      ∀ σ, J 0 σ → CallsIn Fence.wide 0 P gf (#[.func (.yield l) #[] #[]] ++ lb) σ.w fun e W' => (∃ v, e = .returned v) ∧ ∃ σ', W' = σ'.w ∧ J N σ')
    (hbody : ∀ (l D i : Nat) (r r' : Loop), i < N → ∀ σ L, K i L → Hp S0 σ0 σ (Ch.lp l r :: Ch.df D :: L) →
      assign.wpIn (Fz (some l)) 0 P (Exit.then (fun a₁ w₁ => ∃ σ1 L1, w₁ = σ1.w ∧ Hp S0 σ0 σ1 (Ch.lp l r :: Ch.df D :: L1) ∧ ∀ σ2, Hp S0 σ0 σ2 (Ch.lp l r' :: Ch.df D :: L1) →
        body.wpIn (Fz (some l)) 0 P (fun e _ w => e = .normal ∧ ∃ σ3 L3, w = σ3.w ∧ K (i + 1) L3 ∧ Hp S0 σ0 σ3 (Ch.lp l r' :: Ch.df D :: L3)) a₁ σ2.w) (fun _ _ _ => False))
        { tmps := (ps.zip (encs i)).foldl (fun t (p, v) => t.setIfInBounds p v) a.tmps, defers := [] } σ.w)
    (hdone : ∀ (D : Nat) σ' L', K N L' → Hp S0 σ0 σ' (Ch.df D :: L') → Q .normal { a with defers := { target := .collected D, args := #[] } :: a.defers } σ'.w) :
    (Code.rangeFunc g ps assign body).wpIn (Fz none) 0 P Q a σ.w := by
  refine wpIn_rangeFunc ?_
  intro fn hfn
  obtain ⟨rec, hrec⟩ : ∃ rec : LoopState → Option Code → Loop, rec = fun st pe => { state := st, pending := pe, fn, tmps := a.tmps, params := ps, assign, body, defers := σ.w.heap.size } := ⟨_, rfl⟩
  have H1 := (H.newDf).newLp (rec .ready none)
  generalize hσ1 : (σ.new (.deferred (some [])) 0).new (.loop (rec .ready none)) 0 = σ1 at H1
  have hs : (σ.new (.deferred (some [])) 0).size = σ.w.heap.size + 1 := St.new_size _ _ _
  rw [hs] at H1
  have hsz : σ.size = σ.w.heap.size := rfl
  rw [hsz] at H1
  generalize hl : σ.w.heap.size + 1 = l at *
  generalize hD : σ.w.heap.size = D at *
  refine ⟨l, [{ target := .collected D, args := #[] }], σ1.w, { target := .fn (.func gf) lb, args := #[.func (.yield l) #[] #[]] }, σ1.w, gf, #[.func (.yield l) #[] #[]] ++ lb, σ1.w, ?_, ?_, ?_, ?_, fun h => (by cases h), ?_⟩
  · have := run_enterLoop_outer (P := P) (w := σ.w) fn a.tmps ps assign body
    rw [this, ← hσ1, hrec, hD, hl]
    rfl
  · simp only [resolve, hg]
    simp [go_sem]
  · intro f' hf'; trivial
  · simp [invoke, go_sem, eg]
  · refine (hseq l (fun i σ => ∃ L, K i L ∧ Hp S0 σ0 σ (Ch.lp l (rec .ready none) :: Ch.df D :: L)) (fun ⟨L, h1, h2⟩ m => ⟨L, h1, h2.grow m⟩) (fun ⟨L, h1, h2⟩ => ⟨L, [_, _], h1, h2⟩) ?_ σ1 ⟨L, hK, H1⟩).mono ?_
    · rintro i hi σ2 ⟨L2, hK2, H2⟩
      have hl2 := H2.all.1.1
      have hy := run_yield (P := P) (args := encs i) hl2 (by rw [hrec]; exact hps i hi)
      rw [hrec] at hy
      refine ⟨fn, _, assign, body, hy, roundIn_of_wpIn hfn ?_⟩
      refine wpIn_mono (hbody l D i (rec .ready none) { rec .ready none with state := .busy } hi σ2 L2 hK2 H2) ?_
      intro e a1 w1 hq
      cases e with
      | normal =>
        obtain ⟨σ3, L3, rfl, H3, hb⟩ := hq
        refine ⟨_, run_beginRound H3.all.1.1 (by rw [hrec]), ?_⟩
        have H4 := H3.setLp { rec .ready none with state := .busy }
        refine wpIn_mono (hb _ H4) ?_
        rintro e a3 w3 ⟨rfl, σ5, L5, rfl, hK5, H5⟩
        refine ⟨_, _, run_endRound none H5.all.1.1, rfl, σ5.put l (.loop (rec .ready none)), ?_, L5, hK5, H5.setLp _⟩
        rw [hrec]; rfl
      | ret => exact hq.elim
      | exit id => exact hq.elim
      | goto t => exact hq.elim
      | panic ch => exact hq.elim
      | outgrown => exact hq.elim
    · rintro e W2 ⟨⟨v, rfl⟩, σ2, rfl, L2, hK2, H2⟩
      refine ⟨none, _, ?_, hdone D _ L2 hK2 (H2.setLp { rec .ready none with state := .exhausted }).tail⟩
      have := run_endLoop (P := P) H2.all.1.1 (by rw [hrec]; simp)
      rw [hrec] at this ⊢
      exact this
end

theorem gidx_at {α : Type} {xs : List α} {i : Nat} (h : i < xs.length) : gidx xs (i : Int) = some xs[i] := by
  unfold gidx
  rw [if_pos (by omega)]
  simp [h]
/-- What slices.Collect makes of what is handed over. -/
noncomputable def M.coll {α : Type} (xs : List α) : Option (List α) := if xs.length ≤ 2147483648 then some xs else none
theorem coll_some {α : Type} {xs r : List α} (h : M.coll xs = some r) : xs.length ≤ 2147483648 ∧ r = xs := by
  unfold M.coll at h; split at h
  · exact ⟨by assumption, (Option.some.inj h).symm⟩
  · cases h
theorem take_gapp {α : Type} {xs : List α} {i : Nat} (h : i < xs.length) (hn : xs.length ≤ 2147483648) : gapp (xs.take i) [xs[i]] = some (xs.take (i + 1)) := by
  unfold gapp
  rw [if_pos (by simp; omega), List.take_succ_eq_append_getElem h]

/-! ## Into and out of functions with such a statement -/
section
variable {P : Program} {ops : Array Oper} {Q : Exit → Act → World → Prop} {n d : Nat} {ρ : Nat → Value} {σ σ0 : St} {w : World} {v : Value} {rest : List Oper} {r : Option Nat} {S0 : BS} {L : List Ch}
variable {op : Op} {ty : TypeId} {pos : String} {af : Array Edge}
/-- A frame with deferred calls. -/
def frd (n : Nat) (ds : List Deferred) (ρ : Nat → Value) : Act := { fr n ρ with defers := ds }
theorem frd_eval {ds : List Deferred} : (frd n ds ρ).eval = (fr n ρ).eval := by funext x; cases x <;> rfl
theorem frd_put {ds : List Deferred} : (frd n ds ρ).put (some d) v = frd n ds (upd ρ d v) := by
  have := fr_put n ρ d v
  unfold frd
  simp only [Act.put] at this ⊢
  rw [← this]
theorem stD {ds : List Deferred} (hnd : ∀ c, op ≠ .defer c) (hr : RunV P w.heap n ρ ⟨some d, op, ty, pos, af, none⟩ v) (k : wpListIn (Fz r) 0 P ops Q rest (frd n ds (upd ρ d v)) w) :
    wpListIn (Fz r) 0 P ops Q (⟨some d, op, ty, pos, af, none⟩ :: rest) (frd n ds ρ) w := by
  unfold wpListIn
  rw [if_pos (wanted_none _ rfl _)]
  refine ⟨fun _ _ => trivial, ?_⟩
  rw [Oper.semAt_eq _ _ _ hnd, frd_eval, fr_eval, hr w rfl]
  simp only [Oper.uponIn_value, frd_put]
  exact k
theorem endD {ds : List Deferred} (h : Q .normal (frd n ds ρ) w) : wpListIn (Fz r) 0 P ops Q [] (frd n ds ρ) w := h
theorem rgD {id : Nat} {l : List Oper} {ds : List Deferred} (h : wpListIn (Fz r) 0 P l.toArray Q l (frd n ds ρ) w) : (Code.region id l.toArray false).wpIn (Fz r) 0 P Q (frd n ds ρ) w := wpIn_region_lit h
theorem round_fr {p : Nat} : ({ tmps := (Array.zip #[p] #[v]).foldl (fun t (p, v) => t.setIfInBounds p v) (fr n ρ).tmps, defers := [] } : Act) = fr n (upd ρ p v) := by
  rw [← fr_put]
  have : (Array.zip #[p] #[v]) = #[(p, v)] := by simp
  simp [this, Act.put, fr]
theorem eg_of {f : FuncId} (hf : ∃ fn c, P.funcs[f]? = some fn ∧ (fn.name == "runtime.NumGoroutine") = false ∧ fn.body = some c) (args : Array Value) (w : World) : (callFunc f args).run P w = .ok (.enter f args) w := by
  obtain ⟨fn, c, h1, h2, h3⟩ := hf
  simp only [callFunc, Sem.run_bind, run_program, Result.andThen_ok, h1, h2, h3]
  simp
theorem enterI {f : FuncId} {fn : Func} {c : Code} {l : List Value} {R : Ending → World → Prop} (hf : P.funcs[f]? = some fn) (hb : fn.body = some c) (hn : fn.ntmps = n) (hl : Nat.ble l.length n = true)
    (h : c.wpIn (Fz none) 0 P (bodyPostM Fence.wide 0 P fn R) (fr n (argsρ l)) w) : CallsIn Fence.wide 0 P f l.toArray w R := by
  refine callsIn_of_wp_marks hf hb trivial ?_
  have := fr_args l n (by simpa using hl)
  simp only [List.size_toArray, hn, this]
  exact h
theorem fin_plain' {fn : Func} {R : Ending → World → Prop} (hr : (results fn (fr n ρ).tmps).run P w = .ok v w) (hp : R (.returned v) w) : bodyPostM Fence.wide 0 P fn R .normal (fr n ρ) w := ⟨v, hr, hp⟩
theorem fin_mark {fn : Func} {R : Ending → World → Prop} {D : Nat} (H : Hp S0 σ0 σ (Ch.df D :: L)) (hr : (results fn (fr n ρ).tmps).run P (σ.put D (.deferred none)).w = .ok v (σ.put D (.deferred none)).w) (hp : R (.returned v) (σ.put D (.deferred none)).w) :
    bodyPostM Fence.wide 0 P fn R .ret (frd n [{ target := .collected D, args := #[] }] ρ) σ.w :=
  ⟨by simp, .inl ⟨D, _, rfl, run_takeDeferred H.all.1.1, v, hr, hp⟩⟩
end
end Go.Vs
