/- What a function of the program does to its memory, step by step. -/
import Derived.Test.YtflpjndobffkjaaTreeVisitsAllEng1
set_option linter.unusedVariables false
set_option linter.unusedSimpArgs false
namespace Go.Vs
open Go

inductive Tr (α : Type) where
  | nil
  | node (x : α) (n : Int) (l r : Tr α)
def Tr.get {α : Type} : Tr α → Option (α × Int × Tr α × Tr α)
  | .nil => none
  | .node x n l r => some (x, n, l, r)
def Tr.isNil {α : Type} : Tr α → Bool
  | .nil => true
  | .node .. => false
def Tr.mk {α : Type} (p : α × Int × Tr α × Tr α) : Tr α := .node p.1 p.2.1 p.2.2.1 p.2.2.2
section
variable {α : Type} [Rp α]
def RT (lo : Nat) (σ : St) : Value → Tr α → Prop
  | v, .nil => v = .pointer none
  | v, .node x n l r => ∃ b o c vl vr, v = pt b o ∧ lo ≤ b ∧ o + (Rp.sz α + 3) ≤ σ.vis b ∧ Rp.rp lo σ c x ∧ RT lo σ vl l ∧ RT lo σ vr r ∧
      ∀ j, (h : j < (c ++ [I n, vl, vr]).length) → σ.cell b (o + j) = some (c ++ [I n, vl, vr])[j]

theorem RT.plain {lo : Nat} {σ : St} {v : Value} {t : Tr α} (h : RT lo σ v t) : plain v = true := by
  cases t with
  | nil => rw [show v = .pointer none from h]; rfl
  | node x n l r => obtain ⟨b, o, c, vl, vr, rfl, _⟩ := h; rfl
theorem RT.isPtr {lo : Nat} {σ : St} {v : Value} {t : Tr α} (h : RT lo σ v t) : ∃ a, v = .pointer a := by
  cases t with
  | nil => exact ⟨none, h⟩
  | node x n l r => obtain ⟨b, o, c, vl, vr, rfl, _⟩ := h; exact ⟨_, rfl⟩
theorem RT.extL {lo : Nat} {σ σ' : St} (hE : ExtL lo σ σ') : ∀ {t : Tr α} {v : Value}, RT lo σ v t → RT lo σ' v t
  | .nil, _, h => h
  | .node x n l r, _, ⟨b, o, c, vl, vr, h1, h2, h3, h4, h5, h6, h7⟩ => by
    refine ⟨b, o, c, vl, vr, h1, h2, Nat.le_trans h3 (hE.vis b h2), Rp.extL hE h4, RT.extL hE h5, RT.extL hE h6, fun j hj => ?_⟩
    have hl : (c ++ [I n, vl, vr]).length = Rp.sz α + 3 := by rw [List.length_append, Rp.len h4]; rfl
    rw [hE.cell b _ h2 (by omega)]
    exact h7 j hj
theorem RT.low {lo lo' : Nat} {σ : St} (hl : lo' ≤ lo) : ∀ {t : Tr α} {v : Value}, RT lo σ v t → RT lo' σ v t
  | .nil, _, h => h
  | .node x n l r, _, ⟨b, o, c, vl, vr, h1, h2, h3, h4, h5, h6, h7⟩ => ⟨b, o, c, vl, vr, h1, Nat.le_trans hl h2, h3, Rp.low hl h4, RT.low hl h5, RT.low hl h6, h7⟩
instance : Rp (Tr α) where
  sz := 1
  rp lo σ cs t := ∃ v, cs = [v] ∧ RT lo σ v t
  pos := by decide
  len := by rintro _ _ _ _ ⟨v, rfl, _⟩; rfl
  extL := by rintro _ _ _ _ _ hE ⟨v, rfl, h⟩; exact ⟨v, rfl, h.extL hE⟩
  low := by rintro _ _ _ _ _ hl ⟨v, rfl, h⟩; exact ⟨v, rfl, h.low hl⟩
  one := by
    rintro _ _ _ _ ⟨v, rfl, h⟩ c hc
    simp only [List.mem_singleton] at hc
    rw [hc]; exact h.plain

theorem RT.at' {lo : Nat} {σ : St} {v : Value} {t : Tr α} {p : α × Int × Tr α × Tr α} (h : RT lo σ v t) (hp : t.get = some p) : ∃ b o, v = pt b o ∧ At lo σ b o p := by
  cases t with
  | nil => cases hp
  | node x n l r =>
    cases hp
    obtain ⟨b, o, c, vl, vr, h1, h2, h3, h4, h5, h6, h7⟩ := h
    exact ⟨b, o, h1, c ++ [I n, vl, vr], ⟨c, [I n, vl, vr], rfl, h4, [I n], [vl, vr], rfl, rfl, [vl], [vr], rfl, ⟨vl, rfl, h5⟩, ⟨vr, rfl, h6⟩⟩, h7⟩

theorem RT.ex {lo : Nat} {σ : St} {v : Value} {t : Tr α} {p : α × Int × Tr α × Tr α} (h : RT lo σ v t) (hp : t.get = some p) : ∃ b o, v = pt b o := by
  obtain ⟨b, o, h, _⟩ := h.at' hp
  exact ⟨b, o, h⟩
theorem RT.at {lo : Nat} {σ : St} {v : Value} {t : Tr α} {p : α × Int × Tr α × Tr α} {b o : Nat} (h : RT lo σ v t) (hp : t.get = some p) (hv : v = pt b o) : At lo σ b o p := by
  obtain ⟨b', o', h1, h2⟩ := h.at' hp
  rw [hv] at h1
  cases h1
  exact h2
theorem RT.hmd {S : BS} {lo : Nat} {σ σ' : St} {v u : Value} {t : Tr α} {p : α × Int × Tr α × Tr α} {b o : Nat} (h : RT lo σ v t) (hp : t.get = some p) (hv : v = pt b o) {k : Nat} (hk : k < Rp.sz α + 3)
    (hc : HCell σ.w.heap b (o + k) = some u) (m : Md S σ σ') : HCell σ'.w.heap b (o + k) = some u := by
  cases t with
  | nil => cases hp
  | node x n l r =>
    obtain ⟨b', o', c, vl, vr, h1, h2, h3, _⟩ := h
    rw [hv] at h1
    cases h1
    rw [HCell_eq] at hc ⊢
    exact (m.ext.cell b (o + k) (by omega)).trans hc
theorem At.tree {el : Nat} {σ : St} {b o : Nat} {t : Tr α} (h : At el σ b o t) : ∃ v, HCell σ.w.heap b o = some v ∧ RT el σ v t := by
  obtain ⟨cs, ⟨v, rfl, hR⟩, h2⟩ := h
  exact ⟨v, by rw [HCell_eq]; exact h2 0 (by simp), hR⟩

def Ch.pr (el : Nat) (v : Value) (t : Tr α) : Ch where
  dup := true
  fp _ := False
  as σ := RT el σ v t
  hdup _ _ := id
  hlt _ _ h := h.elim
  hst m _ h := RT.extL (m.ext.extL el) h
variable {S0 : BS} {σ0 σ : St} {L R : List Ch} {el lo b i : Nat} {v : Value} {t : Tr α} {cs : List Value}
theorem Hp.pr (H : Hp S0 σ0 σ L) (i : Nat) (h : nth L i = some (Ch.pr el v t)) : RT el σ v t := H.get h
theorem Hp.nilPr (H : Hp S0 σ0 σ L) (α : Type) [Rp α] (el : Nat) : Hp S0 σ0 σ (Ch.pr el (.pointer none) (Tr.nil : Tr α) :: L) := H.add (d := Ch.pr el _ _) rfl (fun _ h => h)
theorem Hp.pubTr {p : α × Int × Tr α × Tr α} (H : Hp S0 σ0 σ L) (i : Nat) (h : pick L i = some (Ch.bx lo b 0 cs [] [], R)) (hel : el ≤ lo) (hr : Rp.rp el σ cs p) :
    ∃ σ' : St, σ'.w = σ.w ∧ Hp S0 σ0 σ' (Ch.pr el (pt b 0) (Tr.mk p) :: R) ∧ Md (fun c => c = b) σ σ' := by
  have H1 := H.front h
  obtain ⟨⟨T, h1, h2⟩, h3, h4⟩ : Bx σ b ([] ++ (cs ++ [])) ∧ ([] : List Value).length = 0 ∧ lo ≤ b := H1.head
  simp only [List.nil_append, List.append_nil] at h1
  have hb := lt_of_block h1
  have hE := St.pub_ext (σ := σ) (e := cs.length) hb
  have m : Md (fun c => c = b) σ (σ.pub b cs.length hb) := ⟨rfl, rfl, rfl, Nat.le_refl _, hE, fun _ _ _ => rfl, fun c _ hn => by
    show (if c = b then _ else _) = _
    rw [if_neg hn]⟩
  have hlen := Rp.len hr
  refine ⟨σ.pub b cs.length hb, rfl, Hp.frame1 (A' := [Ch.pr el (pt b 0) (Tr.mk p)]) H1 (Hp.one (m.mono fun c hc => .inl hc) ?_ (fun c hc => hc.elim)), m⟩
  have hr' := Rp.ext hE hr
  obtain ⟨c1, c2, rfl, g1, c3, c4, rfl, g3, c5, c6, rfl, ⟨vl, rfl, g5⟩, ⟨vr, rfl, g6⟩⟩ := hr'
  obtain rfl : c3 = [I p.2.1] := g3
  refine ⟨b, 0, c1, vl, vr, rfl, Nat.le_trans hel h4, ?_, g1, g5, g6, fun j hj => ?_⟩
  · show _ ≤ (if b = b then _ else _)
    rw [if_pos rfl]
    have := Rp.len g1
    simp only [List.length_append, List.length_cons, List.length_nil]
    omega
  · show σ.cell b (0 + j) = _
    rw [← congrFun (congrFun (congrFun (show (fun (σ : St) b o => HCell σ.w.heap b o) = fun σ b o => σ.cell b o from by funext σ b o; exact HCell_eq ..) σ) b) (0 + j)]
    show HCell σ.w.heap b (0 + j) = _
    rw [Nat.zero_add]
    unfold HCell
    rw [h1]
    simp only [List.getElem?_toArray]
    exact List.getElem?_eq_getElem hj
end

section
variable {α : Type} [Rp α] {P : Program} {H : Array Obj} {n lo : Nat} {ρ : Nat → Value} {d : Option Nat} {ty T T' : TypeId} {pos : String} {af : Array Edge} {gd : Option (Nat × Bool)} {x y : Operand} {v : Value} {t : Tr α} {σ : St}
theorem rv_nilCheckT {b o : Nat} (hv : v = pt b o) (hx : ev n ρ x = v) : RunV P H n ρ ⟨d, .nilCheck x, ty, pos, af, gd⟩ (pt b o) := rv_nilCheck (hx.trans hv)
theorem run_equal_nil {E : TypeId} (hT : P.underlying T = some (.pointer E)) (hR : RT lo σ v t) (w : World) : (Op.equal T v (.pointer none)).run P w = .ok t.isNil w := by
  cases t with
  | nil =>
    have hv : v = .pointer none := hR
    subst hv
    show (Op.equalIn (9999 + 1) T (.pointer none) (.pointer none)).run P w = _
    rw [Op.equalIn]
    simp only [underlying, Sem.run_bind, run_program, Result.andThen_ok, hT, Sem.run_pure]
    rfl
  | node z m l r =>
    obtain ⟨b, o, c, vl, vr, rfl, _⟩ := hR
    show (Op.equalIn (9999 + 1) T (pt b o) (.pointer none)).run P w = _
    rw [Op.equalIn]
    simp only [underlying, Sem.run_bind, run_program, Result.andThen_ok, hT, Sem.run_pure]
    rfl
theorem rv_eqlNil {E : TypeId} (hT : P.underlying T = some (.pointer E)) (hR : RT lo σ v t) (hx : ev n ρ x = v) (hy : ev n ρ y = .pointer none) : RunV P H n ρ ⟨d, .binOp .eql T x y T', ty, pos, af, gd⟩ (B t.isNil) := fun w _ => by
  have hv : ∃ a, v = .pointer a := by
    cases t with
    | nil => exact ⟨none, hR⟩
    | node z m l r => obtain ⟨b, o, c, vl, vr, rfl, _⟩ := hR; exact ⟨_, rfl⟩
  obtain ⟨a, rfl⟩ := hv
  simp [execOp, hx, hy, eqGuard, binOp, run_equal_nil hT hR]
end
end Go.Vs
