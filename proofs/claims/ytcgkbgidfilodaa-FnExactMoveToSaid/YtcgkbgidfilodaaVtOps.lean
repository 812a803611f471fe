/- The steps of a walk, over chunks. -/
import Derived.Test.YtcgkbgidfilodaaVtHp
set_option linter.unusedVariables false
set_option linter.unusedSimpArgs false
namespace Go.Vs
open Go

section
variable {P : Program} {ops : Array Oper} {Q : Exit → Act → World → Prop} {n d : Nat} {ρ : Nat → Value} {σ0 σ : St} {S0 : BS} {L R : List Ch} {u v : Value} {rest : List Oper} {dst : Option Nat}
variable {ty T T' E E' : TypeId} {pos : String} {af : Array Edge} {x y : Operand} {a : Int} {α : Type} [Rp α] {xs ys : List α} {z : Value} {s bt lo el : Nat} {gd : Option (Nat × Bool)} {op : Op} {Rz : Value → St → Prop} {Rs : St → Prop}

/-- One operation that yields a value and turns the world. -/
abbrev Ex (P : Program) (σ : St) (n : Nat) (ρ : Nat → Value) (o : Oper) (Rz : Value → St → Prop) : Prop := ∃ v σ', RunW P σ.w n ρ o v σ'.w ∧ Rz v σ'
abbrev ExS (P : Program) (σ : St) (n : Nat) (ρ : Nat → Value) (o : Oper) (Rs : St → Prop) : Prop := ∃ σ', RunS P σ.w n ρ o σ'.w ∧ Rs σ'

theorem st_ex (he : Ex P σ n ρ ⟨some d, op, ty, pos, af, gd⟩ Rz) (hw : Region.wanted ⟨some d, op, ty, pos, af, gd⟩ (yv ops n ρ) = true)
    (k : ∀ v (σ' : St), Rz v σ' → wpList P ops Q rest (fr n (upd ρ d v)) σ'.w) : wpList P ops Q (⟨some d, op, ty, pos, af, gd⟩ :: rest) (fr n ρ) σ.w := by
  obtain ⟨v, σ', hr, h⟩ := he
  exact st_w hw hr (k v σ' h)
theorem st_exS (he : ExS P σ n ρ ⟨none, op, ty, pos, af, gd⟩ Rs) (hw : Region.wanted ⟨none, op, ty, pos, af, gd⟩ (yv ops n ρ) = true)
    (k : ∀ (σ' : St), Rs σ' → wpList P ops Q rest (fr n ρ) σ'.w) : wpList P ops Q (⟨none, op, ty, pos, af, gd⟩ :: rest) (fr n ρ) σ.w := by
  obtain ⟨σ', hr, h⟩ := he
  exact st_s hw hr (k σ' h)
/-- An operation whose result nobody keeps. -/
theorem st_ex0 (he : Ex P σ n ρ ⟨none, op, ty, pos, af, gd⟩ Rz) (hw : Region.wanted ⟨none, op, ty, pos, af, gd⟩ (yv ops n ρ) = true)
    (k : ∀ v (σ' : St), Rz v σ' → wpList P ops Q rest (fr n ρ) σ'.w) : wpList P ops Q (⟨none, op, ty, pos, af, gd⟩ :: rest) (fr n ρ) σ.w := by
  obtain ⟨v, σ', hr, h⟩ := he
  unfold wpList
  rw [yielded_fr, if_pos hw]
  refine .inl ?_
  unfold Oper.wp
  rw [fr_eval, hr]
  simp only [Oper.upon_value, fr_put_none]
  exact k v σ' h

theorem Mod.md0 {σ σ' : St} (m : Mod Option.none σ σ') : Md (cov []) σ σ' := m.md.mono fun b hb => by cases hb

/-! ## Boxes -/
theorem new_box (H : Hp S0 σ0 σ L) (hlo : lo ≤ σ0.size) (T : TypeId) (cs : List Value) : Hp S0 σ0 (σ.new (.cells cs.toArray T (0, 0)) 0) (Ch.bx lo σ.size 0 cs [] [] :: L) :=
  Hp.frame0 (A' := [Ch.bx lo σ.size 0 cs [] []]) H (Hp.fresh (St.new_mod _ _ _) _ ⟨⟨T, by simpa using St.new_new _ _ _, St.new_vis _ _ _⟩, rfl, Nat.le_trans hlo H.size⟩ (fun b hb => Nat.le_of_eq (Eq.symm hb)))

/-- A box of a value that came in. -/
theorem ex_box {cs : List Value} (H : Hp S0 σ0 σ L) (hlo : lo ≤ σ0.size) (hx : ev n ρ x = v) (hv : v.cells = cs.toArray) :
    Ex P σ n ρ ⟨dst, .box T x, ty, pos, af, gd⟩ fun v σ' => ∃ b, v = pt b 0 ∧ Hp S0 σ0 σ' (Ch.bx lo b 0 cs [] [] :: L) ∧ Md (cov []) σ σ' := by
  refine ⟨_, σ.new (.cells cs.toArray T (0, 0)) 0, ?_, σ.size, rfl, new_box H hlo T cs, (St.new_mod _ _ _).md0⟩
  simp [RunW, execOp, hx, Instr.box, newVar, newRow, newObj, Sem.run, hv, St.new, World.mk']
/-- A new variable. -/
theorem ex_alloc {cs : List Value} (H : Hp S0 σ0 σ L) (hlo : lo ≤ σ0.size) (hi : TI P T z s bt) (hv : z.cells = cs.toArray) :
    Ex P σ n ρ ⟨dst, .alloc T, ty, pos, af, gd⟩ fun v σ' => ∃ b, v = pt b 0 ∧ Hp S0 σ0 σ' (Ch.bx lo b 0 cs [] [] :: L) ∧ Md (cov []) σ σ' := by
  refine ⟨_, σ.new (.cells cs.toArray T (0, 0)) 0, ?_, σ.size, rfl, new_box H hlo T cs, (St.new_mod _ _ _).md0⟩
  simp [RunW, execOp, Instr.alloc, run_zero hi, newVar, newRow, newObj, Sem.run, hv, St.new, World.mk']

theorem wrL_ctx (vs : List Value) : ∀ (pre cs suf : List Value) (k : Nat), k + vs.length ≤ cs.length → wrL (pre ++ (cs ++ suf)) (pre.length + k) vs = pre ++ (wrL cs k vs ++ suf) := by
  induction vs with
  | nil => intro pre cs suf k _; rfl
  | cons v r ih =>
    intro pre cs suf k hk
    simp only [List.length_cons] at hk
    rw [wrL, wrL, ← ih pre (cs.set k v) suf (k + 1) (by rw [List.length_set]; omega)]
    congr 1
    rw [List.set_append_right _ _ (by omega), List.set_append_left _ _ (by omega)]
    congr 3; omega

/-- A store into a box. -/
theorem ex_store_box {cs vs cs' pre suf : List Value} {b o o' k i : Nat} (H : Hp S0 σ0 σ L) (hp : pick L i = some (Ch.bx lo b o cs pre suf, R)) (hi : TI P T z s bt) (hx : ev n ρ x = pt b o') (ho' : o' = o + k) (hy : ev n ρ y = v) (hv : v.cells = vs.toArray) (hs : vs.length = s)
    (hk : k + vs.length ≤ cs.length) (hpl : ∀ u ∈ vs, plain u = true) (hcs : wrL cs k vs = cs') :
    ExS P σ n ρ ⟨dst, .store T x y, ty, pos, af, gd⟩ fun σ' => Hp S0 σ0 σ' (Ch.bx lo b o cs' pre suf :: R) ∧ Md (fun i => i = b) σ σ' := by
  subst ho' hcs
  have H1 := H.front hp
  obtain ⟨⟨T0, h1, h2⟩, h3, h4⟩ : Bx σ b (pre ++ (cs ++ suf)) ∧ pre.length = o ∧ lo ≤ b := H1.head
  have hb := lt_of_block h1
  have hst := run_storeCells (P := P) b (o + k) T0 vs 0 σ.w (pre ++ (cs ++ suf)).toArray h1 (by simp; omega) hpl
  simp only [Nat.add_zero] at hst
  have m : Md (fun i => i = b) σ (σ.put b (.cells (wr (pre ++ (cs ++ suf)).toArray (o + k) vs) T0 (0, 0))) := (St.put_mod h2).md.mono fun i hi => by cases hi; rfl
  refine ⟨σ.put b (.cells (wr (pre ++ (cs ++ suf)).toArray (o + k) vs) T0 (0, 0)), ?_, ?_, m⟩
  · simp [RunS, execOp, hx, hy, Instr.storeAt, Instr.sureAddr, storeVar, run_typeInfo hi, hv, hs, hst, St.put]
  refine Hp.frame1 (A' := [Ch.bx lo b o (wrL cs k vs) pre suf]) H1 (Hp.one (m.mono fun i hi => .inl hi) ⟨⟨T0, ?_, h2⟩, h3, h4⟩ (fun i hi _ => .inl hi))
  rw [wr_list, ← h3, wrL_ctx vs pre cs suf k hk]
  exact World.put_at _ hb

/-! ## Slices of the function's own -/
theorem frame_own {α β : Type} [Rp α] [Rp β] {el' lo' : Nat} {v' : Value} {xs : List α} {ys : List β} {σ' : St} {i : Nat} (H : Hp S0 σ0 σ L) (hp : pick L i = some (Ch.own lo el v xs, R)) (m : Mod (blk v) σ σ') (h : Ow σ' lo' el' v' ys) (hf : blk v' = blk v ∨ ∀ b, blk v' = some b → σ.size ≤ b) :
    Hp S0 σ0 σ' (Ch.own lo' el' v' ys :: R) :=
  Hp.frame1 (A' := [Ch.own lo' el' v' ys]) (H.front hp) (Hp.one (m.md.mono fun b hb => .inl hb) h (fun b hb hlt => by
    rcases hf with hf | hf
    · exact .inl (hf.symm.trans hb)
    · exact absurd hlt (Nat.not_lt.2 (hf b hb))))
theorem new_own {v' : Value} {σ' : St} (H : Hp S0 σ0 σ L) (hlo : lo ≤ σ0.size) (m : Mod none σ σ') (h : Ow σ' σ.size el v' xs) : Hp S0 σ0 σ' (Ch.own lo el v' xs :: L) :=
  Hp.frame0 (A' := [Ch.own lo el v' xs]) H (Hp.fresh m _ (h.lo (Nat.le_trans hlo H.size)) (fun b hb => h.ge b hb))

/-- A store into an element. -/
theorem ex_store_own {e e' : α} {bl o o' k i : Nat} {vs : List Value} (H : Hp S0 σ0 σ L) (hpk : pick L i = some (Ch.own lo el v xs, R)) (hi : TI P T z s bt) (hg : gidx xs a = some e) (hix : Ix v a (Rp.sz α) bl o) (hx : ev n ρ x = pt bl o') (ho : o' = o + k) (hy : ev n ρ y = u)
    (hu : u.cells = vs.toArray) (hs : vs.length = s) (hk : k + vs.length ≤ Rp.sz α) (hp : ∀ t ∈ vs, plain t = true) (hrp : ∀ cs, Rp.rp el σ cs e → Rp.rp el σ (wrL cs k vs) e') :
    ExS P σ n ρ ⟨dst, .store T x y, ty, pos, af, gd⟩ fun σ' => Hp S0 σ0 σ' (Ch.own lo el v (xs.set a.toNat e') :: R) ∧ Md (fun b => blk v = some b) σ σ' := by
  obtain ⟨σ', hr, m, h⟩ := run_store_own (ty := ty) (pos := pos) (af := af) (gd := gd) (dst := dst) hi ((H.front hpk).head : Ow σ lo el v xs) hg hix hx ho hy hu hs hk hp hrp
  exact ⟨σ', hr, frame_own H hpk m h (.inl rfl), m.md⟩

/-- append to a slice of the function's own. -/
theorem ex_append {r : List α} {i : Nat} (H : Hp S0 σ0 σ L) (hpk : pick L i = some (Ch.own lo el v xs, R)) (hT : P.underlying T = some (.slice E)) (hT' : P.underlying T' = some (.slice E')) (hi : TI P E z s bt) (hs : s = Rp.sz α) (hzs : z.cells.size = s) (hbt : bt ≤ 1024)
    (hS : Rd el σ u ys) (hr : gapp xs ys = some r) (hlo : lo ≤ σ0.size) (hx : ev n ρ x = v) (hy : ev n ρ y = u) :
    Ex P σ n ρ ⟨dst, .call ⟨.builtin .append, #[x, y], #[T, T']⟩, ty, pos, af, gd⟩ fun v' σ' => ∃ a' c', v' = Sl a' r c' ∧ Hp S0 σ0 σ' (Ch.own lo el (Sl a' r c') r :: R) ∧ Md (fun b => blk v = some b) σ σ' := by
  obtain ⟨hlen, rfl⟩ := gapp_some hr
  obtain ⟨a', c', σ', h1, h2, h3, h4, -⟩ := run_append (ty := ty) hT hT' hi hs hzs hbt ((H.front hpk).head : Ow σ lo el v xs) hS hlen (Nat.le_trans hlo H.size)
  refine ⟨_, σ', ?_, a', c', rfl, frame_own H hpk h2 h3 h4, h2.md⟩
  simp only [RunW, execOp, resolve, List.map_toArray, List.map_cons, List.map_nil, hx, hy, Sem.run_bind, Sem.run_pure, Result.andThen_ok, invoke, builtin, h1]

/-- A literal of a slice. -/
theorem ex_buildSlice {len : Nat} {parts : Array (Nat × Operand)} {ps : List (Nat × Value)} {cs : List Value} (H : Hp S0 σ0 σ L) (hlo : lo ≤ σ0.size) (hT : P.underlying T = some (.slice E)) (hi : TI P E z s bt)
    (hbig : Nat.ble (len * s) 16777216 = true) (hp : parts.toList.map (fun p => (p.1, ev n ρ p.2)) = ps)
    (hfill : Instr.fill (fun i => some (i * s, s)) ((Array.range (len * s)).map (fun k => (if len * s = 0 then #[] else z.cells)[k % (if len * s = 0 then #[] else z.cells).size]!)) ps = some cs.toArray)
    (hf : Flat el σ cs xs) (hl : xs.length = len) :
    Ex P σ n ρ ⟨dst, .buildSlice T len parts, ty, pos, af, gd⟩ fun v σ' => ∃ b, v = Sl (some ⟨b, 0, none⟩) xs len ∧ Hp S0 σ0 σ' (Ch.own lo el (Sl (some ⟨b, 0, none⟩) xs len) xs :: L) ∧ Md (cov []) σ σ' := by
  obtain ⟨b, σ', hb, hr, hm, hO⟩ := run_buildSlice (lo := σ.size) (dst := dst) (ty := ty) (pos := pos) (af := af) (gd := gd) hT hi hbig hp hfill hf hl (Nat.le_refl _)
  exact ⟨_, σ', hr, b, rfl, new_own H hlo hm hO, hm.md0⟩

/-- make. -/
theorem ex_make {z0 : α} {zs : List Value} (H : Hp S0 σ0 σ L) (hlo : lo ≤ σ0.size) (hT : P.underlying T = some (.slice E)) (hi : TI P E z s bt) (hs : s = Rp.sz α) (hzc : z.cells = zs.toArray) (hz : Rp.rp el σ zs z0) (hbt : bt ≤ 1024)
    (hr : gmake a z0 = some xs) (hx : ev n ρ x = I a) (hy : ev n ρ y = I a) :
    Ex P σ n ρ ⟨dst, .makeSlice T x y, ty, pos, af, gd⟩ fun v σ' => ∃ b c', v = Sl (some ⟨b, 0, none⟩) xs c' ∧ c' = a.toNat ∧ Hp S0 σ0 σ' (Ch.own lo el (Sl (some ⟨b, 0, none⟩) xs c') xs :: L) ∧ Md (cov []) σ σ' := by
  obtain ⟨b, σ', c', hc', hrun, m, h⟩ := run_make (lo := σ.size) (ty := ty) (pos := pos) (af := af) (gd := gd) (dst := dst) hT hi hs hzc hz hbt hr hx hy (Nat.le_refl _)
  exact ⟨_, σ', hrun, b, c', rfl, hc', new_own H hlo m h, m.md0⟩

/-- An array in a box becomes a slice. -/
theorem Hp.arr {b k i : Nat} {xs : List Int} (H : Hp S0 σ0 σ L) (hp : pick L i = some (Ch.bx lo b 0 (xs.map I) [] [], R)) (hx : xs.length = k) : Hp S0 σ0 σ (Ch.own lo el (Sl (some ⟨b, 0, none⟩) xs k) xs :: R) := by
  refine (H.front hp).turn (d := Ch.own lo el (Sl (some ⟨b, 0, none⟩) xs k) xs) (fun ⟨h1, _, h3⟩ => ?_) (fun i h => ?_)
  · simp only [List.nil_append, List.append_nil] at h1
    have := h1.ow (flat_ints (el := el) xs) h3
    rw [hx] at this; exact this
  · have : blk (Sl (some ⟨b, 0, none⟩) xs k) = some b := rfl
    exact (Option.some.inj (this.symm.trans h)).symm

/-! ## Calls -/
/-- A call of a function: what it asks for, what it gives. -/
structure Cal2 (P : Program) (f : FuncId) (args : List Value) (pre : List Ch) (post : Nat → Value → List Ch → Prop) : Prop where
  fn : ∃ fn c, P.funcs[f]? = some fn ∧ (fn.name == "runtime.NumGoroutine") = false ∧ fn.body = some c
  runs : ∀ (σ : St) (m : Nat), m ≤ σ.size → Hp (cov pre) σ σ pre → Calls P f args.toArray σ.w fun e w' => ∃ v σ' L', e = .returned v ∧ w' = σ'.w ∧ post m v L' ∧ Hp (cov pre) σ σ' L'

/-- How a function ends. -/
def Post2 (post : Value → List Ch → Prop) (σ0 : St) (S0 : BS) (e : Ending) (w' : World) : Prop := ∃ v σ' L', e = .returned v ∧ w' = σ'.w ∧ post v L' ∧ Hp S0 σ0 σ' L'

theorem cal2 {f : FuncId} {fn : Func} {c : Code} {l : List Value} {pre : List Ch} {post : Nat → Value → List Ch → Prop} (hf : P.funcs[f]? = some fn) (hnm : (fn.name == "runtime.NumGoroutine") = false) (hb : fn.body = some c) (hn : fn.ntmps = n) (hl : Nat.ble l.length n = true)
    (h : ∀ (S0 : BS) (σ0 : St) (n0 : Nat), n0 ≤ σ0.size → Hp S0 σ0 σ0 pre → c.wp P (bodyPost P fn (Post2 (post n0) σ0 S0)) (fr n (argsρ l)) σ0.w) : Cal2 P f l pre post :=
  ⟨⟨fn, c, hf, hnm, hb⟩, fun σ m hm H => enter hf hb hn hl (h _ σ m hm H)⟩
theorem fin_ret {fn : Func} {post : Value → List Ch → Prop} {L' : List Ch} (hr : (results fn (fr n ρ).tmps).run P σ.w = .ok v σ.w) (hp : post v L') (H : Hp S0 σ0 σ L') : bodyPost P fn (Post2 post σ0 S0) .ret (fr n ρ) σ.w :=
  bodyPost_ret (v := v) hr rfl ⟨v, σ, L', rfl, rfl, hp, H⟩
theorem fin_end {fn : Func} {post : Value → List Ch → Prop} {L' : List Ch} (hr : (results fn (fr n ρ).tmps).run P σ.w = .ok v σ.w) (hp : post v L') (H : Hp S0 σ0 σ L') : bodyPost P fn (Post2 post σ0 S0) .normal (fr n ρ) σ.w :=
  bodyPost_end (v := v) hr rfl ⟨v, σ, L', rfl, rfl, hp, H⟩

theorem Cal2.frame {f : FuncId} {args : List Value} {A : List Ch} {post : Nat → Value → List Ch → Prop} (hc : Cal2 P f args A post) (H : Hp S0 σ0 σ (A ++ R)) {m : Nat} (hm : m ≤ σ.size) :
    Calls P f args.toArray σ.w fun e w' => ∃ v σ' L', e = .returned v ∧ w' = σ'.w ∧ post m v L' ∧ Hp S0 σ0 σ' (L' ++ R) ∧ Md (cov A) σ σ' := by
  refine (hc.runs σ m hm (Hp.begin (allAs_append.1 H.all).1 (apart_append.1 H.ap).1)).mono ?_
  rintro e w' ⟨v, σ', L', rfl, rfl, hp, H'⟩
  exact ⟨v, σ', L', rfl, rfl, hp, H.frame H', H'.md⟩

/-- A call, whatever names the function: by itself, or by a value or an interface. -/
def Enters (P : Program) (n : Nat) (ρ : Nat → Value) (o : Oper) (f : FuncId) (args : List Value) (w : World) : Prop := (execOp (ev n ρ) o).run P w = .ok (.enter f args.toArray) w
/-- A call that runs so. -/
def Cx (P : Program) (σ : St) (n : Nat) (ρ : Nat → Value) (o : Oper) (Rz : Value → St → Prop) : Prop :=
  ∃ f args, Enters P n ρ o f args σ.w ∧ Calls P f args.toArray σ.w fun e w' => ∃ v σ', e = .returned v ∧ w' = σ'.w ∧ Rz v σ'

theorem cx_call {f : FuncId} {args : List Value} {A : List Ch} {post : Nat → Value → List Ch → Prop} {o : Oper} (hc : Cal2 P f args A post) (he : Enters P n ρ o f args σ.w) {m : Nat} (hm : m ≤ σ0.size) (H : Hp S0 σ0 σ (A ++ R)) :
    Cx P σ n ρ o fun v σ' => ∃ L', post m v L' ∧ Hp S0 σ0 σ' (L' ++ R) ∧ Md (cov A) σ σ' :=
  ⟨f, args, he, (hc.frame H (Nat.le_trans hm H.size)).mono (by rintro e w' ⟨v, σ', L', rfl, rfl, hp, H', m⟩; exact ⟨v, σ', rfl, rfl, L', hp, H', m⟩)⟩
theorem st_cx {o : Oper} (hd : o.dst = dst) (hc : Cx P σ n ρ o Rz) (hw : Region.wanted o (yv ops n ρ) = true)
    (k : ∀ v (σ' : St), Rz v σ' → wpList P ops Q rest ((fr n ρ).put dst v) σ'.w) : wpList P ops Q (o :: rest) (fr n ρ) σ.w := by
  subst hd
  obtain ⟨f, args, he, hc⟩ := hc
  unfold wpList
  rw [yielded_fr, if_pos hw]
  refine .inl ?_
  unfold Oper.wp
  rw [fr_eval, show (execOp (ev n ρ) o).run P σ.w = _ from he, Oper.upon_enter]
  refine hc.mono ?_
  rintro e w' ⟨v, σ', rfl, rfl, h⟩
  exact k v σ' h
theorem st_call (hc : Cx P σ n ρ ⟨some d, op, ty, pos, af, gd⟩ Rz) (hw : Region.wanted ⟨some d, op, ty, pos, af, gd⟩ (yv ops n ρ) = true)
    (k : ∀ v (σ' : St), Rz v σ' → wpList P ops Q rest (fr n (upd ρ d v)) σ'.w) : wpList P ops Q (⟨some d, op, ty, pos, af, gd⟩ :: rest) (fr n ρ) σ.w :=
  st_cx rfl hc hw (fun v σ' h => by rw [fr_put]; exact k v σ' h)
theorem st_call0 (hc : Cx P σ n ρ ⟨none, op, ty, pos, af, gd⟩ Rz) (hw : Region.wanted ⟨none, op, ty, pos, af, gd⟩ (yv ops n ρ) = true)
    (k : ∀ v (σ' : St), Rz v σ' → wpList P ops Q rest (fr n ρ) σ'.w) : wpList P ops Q (⟨none, op, ty, pos, af, gd⟩ :: rest) (fr n ρ) σ.w :=
  st_cx rfl hc hw (fun v σ' h => by rw [fr_put_none]; exact k v σ' h)

/-- A function named by itself. -/
theorem ent_f {f : FuncId} {args : List Value} {xs : Array Operand} {Ts : Array TypeId} {w : World} (hf : ∃ fn c, P.funcs[f]? = some fn ∧ (fn.name == "runtime.NumGoroutine") = false ∧ fn.body = some c) (hx : xs.toList.map (ev n ρ) = args) :
    Enters P n ρ ⟨dst, .call ⟨.value (.func f), xs, Ts⟩, ty, pos, af, gd⟩ f args w := run_call hf hx
/-- A function in a variable, with what it has captured. -/
theorem ent_v {f : FuncId} {args : List Value} {xs : Array Operand} {Ts : Array TypeId} {w : World} {c : Operand} {cap : List Value} (hf : ∃ fn c, P.funcs[f]? = some fn ∧ (fn.name == "runtime.NumGoroutine") = false ∧ fn.body = some c)
    (hc : ev n ρ c = .func (.func f) #[] cap.toArray) (hx : xs.toList.map (ev n ρ) ++ cap = args) :
    Enters P n ρ ⟨dst, .call ⟨.value c, xs, Ts⟩, ty, pos, af, gd⟩ f args w := by
  obtain ⟨fn, c, h1, h2, h3⟩ := hf
  replace hx : xs.map (ev n ρ) ++ cap.toArray = args.toArray := by
    rw [← hx]; apply Array.ext'; simp
  simp only [Enters, execOp, resolve, hc, Deferred.ofValue, Sem.run_bind, Sem.run_pure, Result.andThen_ok, invoke, callFunc, run_program, Array.empty_append, hx, h1, h2, h3]
  simp
end
end Go.Vs
