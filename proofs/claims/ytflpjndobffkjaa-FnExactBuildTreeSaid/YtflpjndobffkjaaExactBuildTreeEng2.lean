/- What a function of the program does to its memory, step by step. -/
import Derived.Test.YtflpjndobffkjaaExactBuildTreeEng1
set_option linter.unusedVariables false
set_option linter.unusedSimpArgs false
namespace Go.Vs
open Go

inductive Tr (α : Type) where
  | nil
  | node (x : α) (n : Int) (l r : Tr α)
def Tr.get {α : Type} : Tr α → Option (α × Int × Tr α × Tr α)
  | .nil => none
  | .node x n l r => some (x, n, l, r)
def Tr.isNil {α : Type} : Tr α → Bool
  | .nil => true
  | .node .. => false
def Tr.mk {α : Type} (p : α × Int × Tr α × Tr α) : Tr α := .node p.1 p.2.1 p.2.2.1 p.2.2.2
section
variable {α : Type} [Rp α]
def RT (lo : Nat) (σ : St) : Value → Tr α → Prop
  | v, .nil => v = .pointer none
  | v, .node x n l r => ∃ b o c vl vr, v = pt b o ∧ lo ≤ b ∧ o + (Rp.sz α + 3) ≤ σ.vis b ∧ Rp.rp lo σ c x ∧ RT lo σ vl l ∧ RT lo σ vr r ∧
      ∀ j, (h : j < (c ++ [I n, vl, vr]).length) → σ.cell b (o + j) = some (c ++ [I n, vl, vr])[j]

theorem RT.plain {lo : Nat} {σ : St} {v : Value} {t : Tr α} (h : RT lo σ v t) : plain v = true := by
  cases t with
  | nil => rw [show v = .pointer none from h]; rfl
  | node x n l r => obtain ⟨b, o, c, vl, vr, rfl, _⟩ := h; rfl
theorem RT.isPtr {lo : Nat} {σ : St} {v : Value} {t : Tr α} (h : RT lo σ v t) : ∃ a, v = .pointer a := by
  cases t with
  | nil => exact ⟨none, h⟩
  | node x n l r => obtain ⟨b, o, c, vl, vr, rfl, _⟩ := h; exact ⟨_, rfl⟩
theorem RT.extL {lo : Nat} {σ σ' : St} (hE : ExtL lo σ σ') : ∀ {t : Tr α} {v : Value}, RT lo σ v t → RT lo σ' v t
  | .nil, _, h => h
  | .node x n l r, _, ⟨b, o, c, vl, vr, h1, h2, h3, h4, h5, h6, h7⟩ => by
    refine ⟨b, o, c, vl, vr, h1, h2, Nat.le_trans h3 (hE.vis b h2), Rp.extL hE h4, RT.extL hE h5, RT.extL hE h6, fun j hj => ?_⟩
    have hl : (c ++ [I n, vl, vr]).length = Rp.sz α + 3 := by rw [List.length_append, Rp.len h4]; rfl
    rw [hE.cell b _ h2 (by omega)]
    exact h7 j hj
theorem RT.low {lo lo' : Nat} {σ : St} (hl : lo' ≤ lo) : ∀ {t : Tr α} {v : Value}, RT lo σ v t → RT lo' σ v t
  | .nil, _, h => h
  | .node x n l r, _, ⟨b, o, c, vl, vr, h1, h2, h3, h4, h5, h6, h7⟩ => ⟨b, o, c, vl, vr, h1, Nat.le_trans hl h2, h3, Rp.low hl h4, RT.low hl h5, RT.low hl h6, h7⟩
instance : Rp (Tr α) where
  sz := 1
  rp lo σ cs t := ∃ v, cs = [v] ∧ RT lo σ v t
  pos := by decide
  len := by rintro _ _ _ _ ⟨v, rfl, _⟩; rfl
  extL := by rintro _ _ _ _ _ hE ⟨v, rfl, h⟩; exact ⟨v, rfl, h.extL hE⟩
  low := by rintro _ _ _ _ _ hl ⟨v, rfl, h⟩; exact ⟨v, rfl, h.low hl⟩
  one := by
    rintro _ _ _ _ ⟨v, rfl, h⟩ c hc
    simp only [List.mem_singleton] at hc
    rw [hc]; exact h.plain

theorem RT.at' {lo : Nat} {σ : St} {v : Value} {t : Tr α} {p : α × Int × Tr α × Tr α} (h : RT lo σ v t) (hp : t.get = some p) : ∃ b o, v = pt b o ∧ At lo σ b o p := by
  cases t with
  | nil => cases hp
  | node x n l r =>
    cases hp
    obtain ⟨b, o, c, vl, vr, h1, h2, h3, h4, h5, h6, h7⟩ := h
    exact ⟨b, o, h1, c ++ [I n, vl, vr], ⟨c, [I n, vl, vr], rfl, h4, [I n], [vl, vr], rfl, rfl, [vl], [vr], rfl, ⟨vl, rfl, h5⟩, ⟨vr, rfl, h6⟩⟩, h7⟩

theorem RT.ex {lo : Nat} {σ : St} {v : Value} {t : Tr α} {p : α × Int × Tr α × Tr α} (h : RT lo σ v t) (hp : t.get = some p) : ∃ b o, v = pt b o := by
  obtain ⟨b, o, h, _⟩ := h.at' hp
  exact ⟨b, o, h⟩
theorem RT.at {lo : Nat} {σ : St} {v : Value} {t : Tr α} {p : α × Int × Tr α × Tr α} {b o : Nat} (h : RT lo σ v t) (hp : t.get = some p) (hv : v = pt b o) : At lo σ b o p := by
  obtain ⟨b', o', h1, h2⟩ := h.at' hp
  rw [hv] at h1
  cases h1
  exact h2
theorem RT.hmd {S : BS} {lo : Nat} {σ σ' : St} {v u : Value} {t : Tr α} {p : α × Int × Tr α × Tr α} {b o : Nat} (h : RT lo σ v t) (hp : t.get = some p) (hv : v = pt b o) {k : Nat} (hk : k < Rp.sz α + 3)
    (hc : HCell σ.w.heap b (o + k) = some u) (m : Md S σ σ') : HCell σ'.w.heap b (o + k) = some u := by
  cases t with
  | nil => cases hp
  | node x n l r =>
    obtain ⟨b', o', c, vl, vr, h1, h2, h3, _⟩ := h
    rw [hv] at h1
    cases h1
    rw [HCell_eq] at hc ⊢
    exact (m.ext.cell b (o + k) (by omega)).trans hc
theorem At.tree {el : Nat} {σ : St} {b o : Nat} {t : Tr α} (h : At el σ b o t) : ∃ v, HCell σ.w.heap b o = some v ∧ RT el σ v t := by
  obtain ⟨cs, ⟨v, rfl, hR⟩, h2⟩ := h
  exact ⟨v, by rw [HCell_eq]; exact h2 0 (by simp), hR⟩

def Ch.pr (el : Nat) (v : Value) (t : Tr α) : Ch where
  dup := true
  fp _ := False
  as σ := RT el σ v t
  hdup _ _ := id
  hlt _ _ h := h.elim
  hst m _ h := RT.extL (m.ext.extL el) h
variable {S0 : BS} {σ0 σ : St} {L R : List Ch} {el lo b i : Nat} {v : Value} {t : Tr α} {cs : List Value}
theorem Hp.pr (H : Hp S0 σ0 σ L) (i : Nat) (h : nth L i = some (Ch.pr el v t)) : RT el σ v t := H.get h
theorem Hp.nilPr (H : Hp S0 σ0 σ L) (α : Type) [Rp α] (el : Nat) : Hp S0 σ0 σ (Ch.pr el (.pointer none) (Tr.nil : Tr α) :: L) := H.add (d := Ch.pr el _ _) rfl (fun _ h => h)
theorem Hp.pubTr {p : α × Int × Tr α × Tr α} (H : Hp S0 σ0 σ L) (i : Nat) (h : pick L i = some (Ch.bx lo b 0 cs [] [], R)) (hel : el ≤ lo) (hr : Rp.rp el σ cs p) :
    ∃ σ' : St, σ'.w = σ.w ∧ Hp S0 σ0 σ' (Ch.pr el (pt b 0) (Tr.mk p) :: R) ∧ Md (fun c => c = b) σ σ' := by
  have H1 := H.front h
  obtain ⟨⟨T, h1, h2⟩, h3, h4⟩ : Bx σ b ([] ++ (cs ++ [])) ∧ ([] : List Value).length = 0 ∧ lo ≤ b := H1.head
  simp only [List.nil_append, List.append_nil] at h1
  have hb := lt_of_block h1
  have hE := St.pub_ext (σ := σ) (e := cs.length) hb
  have m : Md (fun c => c = b) σ (σ.pub b cs.length hb) := ⟨rfl, rfl, rfl, Nat.le_refl _, hE, fun _ _ _ => rfl, fun c _ hn => by
    show (if c = b then _ else _) = _
    rw [if_neg hn]⟩
  have hlen := Rp.len hr
  refine ⟨σ.pub b cs.length hb, rfl, Hp.frame1 (A' := [Ch.pr el (pt b 0) (Tr.mk p)]) H1 (Hp.one (m.mono fun c hc => .inl hc) ?_ (fun c hc => hc.elim)), m⟩
  have hr' := Rp.ext hE hr
  obtain ⟨c1, c2, rfl, g1, c3, c4, rfl, g3, c5, c6, rfl, ⟨vl, rfl, g5⟩, ⟨vr, rfl, g6⟩⟩ := hr'
  obtain rfl : c3 = [I p.2.1] := g3
  refine ⟨b, 0, c1, vl, vr, rfl, Nat.le_trans hel h4, ?_, g1, g5, g6, fun j hj => ?_⟩
  · show _ ≤ (if b = b then _ else _)
    rw [if_pos rfl]
    have := Rp.len g1
    simp only [List.length_append, List.length_cons, List.length_nil]
    omega
  · show σ.cell b (0 + j) = _
    rw [← congrFun (congrFun (congrFun (show (fun (σ : St) b o => HCell σ.w.heap b o) = fun σ b o => σ.cell b o from by funext σ b o; exact HCell_eq ..) σ) b) (0 + j)]
    show HCell σ.w.heap b (0 + j) = _
    rw [Nat.zero_add]
    unfold HCell
    rw [h1]
    simp only [List.getElem?_toArray]
    exact List.getElem?_eq_getElem hj
end

section
variable {α : Type} [Rp α] {P : Program} {H : Array Obj} {n lo : Nat} {ρ : Nat → Value} {d : Option Nat} {ty T T' : TypeId} {pos : String} {af : Array Edge} {gd : Option (Nat × Bool)} {x y : Operand} {v : Value} {t : Tr α} {σ : St}
theorem rv_nilCheckT {b o : Nat} (hv : v = pt b o) (hx : ev n ρ x = v) : RunV P H n ρ ⟨d, .nilCheck x, ty, pos, af, gd⟩ (pt b o) := rv_nilCheck (hx.trans hv)
theorem run_equal_nil {E : TypeId} (hT : P.underlying T = some (.pointer E)) (hR : RT lo σ v t) (w : World) : (Op.equal T v (.pointer none)).run P w = .ok t.isNil w := by
  cases t with
  | nil =>
    have hv : v = .pointer none := hR
    subst hv
    show (Op.equalIn (9999 + 1) T (.pointer none) (.pointer none)).run P w = _
    rw [Op.equalIn]
    simp only [underlying, Sem.run_bind, run_program, Result.andThen_ok, hT, Sem.run_pure]
    rfl
  | node z m l r =>
    obtain ⟨b, o, c, vl, vr, rfl, _⟩ := hR
    show (Op.equalIn (9999 + 1) T (pt b o) (.pointer none)).run P w = _
    rw [Op.equalIn]
    simp only [underlying, Sem.run_bind, run_program, Result.andThen_ok, hT, Sem.run_pure]
    rfl
theorem rv_eqlNil {E : TypeId} (hT : P.underlying T = some (.pointer E)) (hR : RT lo σ v t) (hx : ev n ρ x = v) (hy : ev n ρ y = .pointer none) : RunV P H n ρ ⟨d, .binOp .eql T x y T', ty, pos, af, gd⟩ (B t.isNil) := fun w _ => by
  have hv : ∃ a, v = .pointer a := by
    cases t with
    | nil => exact ⟨none, hR⟩
    | node z m l r => obtain ⟨b, o, c, vl, vr, rfl, _⟩ := hR; exact ⟨_, rfl⟩
  obtain ⟨a, rfl⟩ := hv
  simp [execOp, hx, hy, eqGuard, binOp, run_equal_nil hT hR]
theorem rv_neqNil {E : TypeId} (hT : P.underlying T = some (.pointer E)) (hR : RT lo σ v t) (hx : ev n ρ x = v) (hy : ev n ρ y = .pointer none) : RunV P H n ρ ⟨d, .binOp .neq T x y T', ty, pos, af, gd⟩ (B (!t.isNil)) := fun w _ => by
  have hv : ∃ a, v = .pointer a := by
    cases t with
    | nil => exact ⟨none, hR⟩
    | node z m l r => obtain ⟨b, o, c, vl, vr, rfl, _⟩ := hR; exact ⟨_, rfl⟩
  obtain ⟨a, rfl⟩ := hv
  simp [execOp, hx, hy, eqGuard, binOp, run_equal_nil hT hR]
end
end Go.Vs

namespace Go.Vs
open Go

instance : Rp Value where
  sz := 1
  rp _ _ cs x := cs = [x] ∧ plain x = true
  pos := by decide
  len := by rintro _ _ _ _ ⟨rfl, _⟩; rfl
  extL := fun _ h => h
  low := fun _ h => h
  one := by rintro _ _ _ _ ⟨rfl, h⟩; simpa using h
instance : Sc Value := ⟨fun h => h⟩

section
variable {S0 : BS} {σ0 σ : St} {L K R : List Ch} {c : Ch}
theorem Hp.bigNil (H : Hp S0 σ0 σ R) : Hp S0 σ0 σ (Ch.big [] :: R) := H.add (d := Ch.big []) ⟨trivial, trivial⟩ (fun _ h => h)
theorem Hp.bigCons (H : Hp S0 σ0 σ (c :: Ch.big K :: R)) : Hp S0 σ0 σ (Ch.big (c :: K) :: R) :=
  ⟨H.md, ⟨⟨⟨H.all.1, H.all.2.1.1⟩, ⟨fun b hb h => H.ap.1 b hb (.inl h), H.all.2.1.2⟩⟩, H.all.2.2⟩,
    ⟨fun b hb h => hb.elim (fun hb => H.ap.1 b hb (.inr h)) (fun hb => H.ap.2.1 b hb h), H.ap.2.2⟩,
    fun b hb => H.org b (hb.elim (fun hb => hb.elim .inl (fun hb => .inr (.inl hb))) (fun hb => .inr (.inr hb)))⟩
theorem Hp.bigSnoc (H : Hp S0 σ0 σ (c :: Ch.big K :: R)) : Hp S0 σ0 σ (Ch.big (K ++ [c]) :: R) :=
  ⟨H.md, ⟨⟨allAs_append.2 ⟨H.all.2.1.1, H.all.1, trivial⟩, apart_append.2 ⟨H.all.2.1.2, ⟨fun _ _ h => h, trivial⟩, fun b hb h => h.elim (fun h => H.ap.1 b h (.inl hb)) id⟩⟩, H.all.2.2⟩,
    ⟨fun b hb h => (cov_append.1 hb).elim (fun hb => H.ap.2.1 b hb h) (fun hb => hb.elim (fun hb => H.ap.1 b hb (.inr h)) id), H.ap.2.2⟩,
    fun b hb => H.org b (hb.elim (fun hb => (cov_append.1 hb).elim (fun hb => .inr (.inl hb)) (fun hb => hb.elim .inl (fun h => h.elim))) (fun hb => .inr (.inr hb)))⟩
theorem Hp.unbig (H : Hp S0 σ0 σ (Ch.big (c :: K) :: R)) : Hp S0 σ0 σ (c :: Ch.big K :: R) :=
  ⟨H.md, ⟨H.all.1.1.1, ⟨H.all.1.1.2, H.all.1.2.2⟩, H.all.2⟩,
    ⟨fun b hb h => h.elim (H.all.1.2.1 b hb) (H.ap.1 b (.inl hb)), ⟨fun b hb h => H.ap.1 b (.inr hb) h, H.ap.2⟩⟩,
    fun b hb => H.org b (hb.elim (fun hb => .inl (.inl hb)) (fun hb => hb.elim (fun hb => .inl (.inr hb)) .inr))⟩
end

class Dl (α : Type) (β : outParam Type) [Rp α] [Rp β] where
  sh : α → Value → β
  inn : α → List Int
  sz : Rp.sz α = Rp.sz β
  rp : ∀ {lo lo' : Nat} {σ : St} {cs : List Value} {x : α} {h : Value}, Rp.rp lo σ cs (sh x h) → RS lo' σ h (inn x) → Rp.rp lo' σ cs x
instance : Dl (List Int) Value where
  sh _ h := h
  inn x := x
  sz := rfl
  rp := by rintro _ _ _ _ _ _ ⟨rfl, _⟩ h; exact ⟨_, rfl, h⟩
instance : Dl (Int × List Int × Int) (Int × Value × Int) where
  sh x h := (x.1, h, x.2.2)
  inn x := x.2.1
  sz := rfl
  rp := by
    rintro _ _ _ _ _ _ ⟨_, _, rfl, h1, ⟨_, _, rfl, ⟨rfl, _⟩, h3⟩⟩ h
    exact ⟨_, _, rfl, h1, ⟨_, _, rfl, ⟨_, rfl, h⟩, h3⟩⟩

section
variable {α β : Type} [Rp α] [Rp β] [Dl α β]
def dsh (p : α × Value) : β := Dl.sh p.1 p.2
def dow (lo : Nat) (p : α × Value) : Ch := Ch.own lo lo p.2 (Dl.inn p.1)

structure Dp (lo : Nat) (v : Value) (xs : List α) (K : List Ch) : Prop where
  ex : ∃ ps : List (α × Value), xs = ps.map (·.1) ∧ K = Ch.own lo lo v (ps.map dsh) :: ps.map (dow lo)

theorem pub_inner {lo : Nat} : ∀ (ps : List (α × Value)) (σ : St), allAs σ (ps.map (dow lo)) → apart (ps.map (dow lo)) →
    ∃ σ', Pb (cov (ps.map (dow lo))) σ σ' ∧ ∀ p ∈ ps, RS 0 σ' p.2 (Dl.inn p.1)
  | [], σ, _, _ => ⟨σ, ⟨rfl, fun _ _ => rfl, fun _ => Nat.le_refl _⟩, by simp⟩
  | p :: ps, σ, ⟨h1, h2⟩, ⟨h3, h4⟩ => by
    obtain ⟨σ1, p1, hR⟩ := Ow.pb (h1 : Ow σ lo lo p.2 (Dl.inn p.1))
    obtain ⟨σ2, p2, h5⟩ := pub_inner ps σ1 (allAs_md h2 p1.md (fun b hb hb' => h3 b hb' hb)) h4
    refine ⟨σ2, (p1.trans p2).mono (fun b hb => hb), ?_⟩
    intro q hq
    rcases List.mem_cons.1 hq with rfl | hq
    · exact hR.ext p2.md.ext
    · exact h5 q hq

theorem Dp.lends {lo : Nat} {v : Value} {xs : List α} {K : List Ch} (h : Dp lo v xs K) : Lends K v xs := by
  obtain ⟨ps, rfl, rfl⟩ := h.ex
  rintro σ ⟨h1, h2⟩ ⟨h3, h4⟩
  obtain ⟨σ1, p1, hR⟩ := pub_inner ps σ h2 h4
  have h1' : Ow σ1 lo lo v (ps.map dsh) := (Ch.own lo lo v (ps.map dsh)).hst p1.md (fun b hb hb' => h3 b hb hb') h1
  have h5 : Ow σ1 lo 0 v (ps.map (·.1)) := by
    rcases h1' with ⟨rfl, hz⟩ | ⟨b, o, c, C, T, rfl, h2, h3, h4, h5, h6, h7⟩
    · have : ps = [] := by simpa using hz
      subst this; exact .inl ⟨rfl, rfl⟩
    · refine .inr ⟨b, o, c, C, T, by simp, h2, h3, by simpa using h4, by rw [Dl.sz (α := α) (β := β)]; exact h5, h6, fun i hi => ?_⟩
      have hi' : i < ps.length := by simpa using hi
      obtain ⟨cs, h8, h9⟩ := h7 i (by simpa using hi)
      refine ⟨cs, ?_, fun j hj => by rw [Dl.sz (α := α) (β := β)]; exact h9 j hj⟩
      simp only [List.getElem_map] at h8 ⊢
      exact Dl.rp h8 (hR _ (List.getElem_mem hi'))
  obtain ⟨σ2, p2, h6⟩ := Ow.pb h5
  exact ⟨σ2, (p1.trans p2).mono (fun b hb => hb.elim .inr .inl), h6⟩
end

/-! ## Filling -/
theorem set_step {β : Type} (A : List β) (z e : β) (m : Nat) : (A ++ List.replicate (m + 1) z).set A.length e = (A ++ [e]) ++ List.replicate m z := by
  rw [List.set_append_right _ _ (Nat.le_refl _), Nat.sub_self, List.replicate_succ, List.set_cons_zero]
  simp
theorem gidx_step {β : Type} (A : List β) (z : β) (m : Nat) (i : Int) (h : i = (A.length : Int)) : gidx (A ++ List.replicate (m + 1) z) i = some z := by
  subst h
  unfold gidx
  rw [if_pos (by omega)]
  simp [List.replicate_succ]
theorem gidx_drop {β : Type} {ys : List β} {i : Nat} {e : β} {r : List β} (h : ys.drop i = e :: r) : gidx ys (i : Int) = some e := by
  unfold gidx
  rw [if_pos (by omega)]
  have := congrArg (·[0]?) h
  simpa using this
theorem drop_set {β : Type} {ys : List β} {i : Nat} {e e' : β} {r : List β} (h : ys.drop i = e :: r) : (ys.set i e').drop i = e' :: r := by
  have hl : i < ys.length := by
    have := congrArg List.length h
    simp at this; omega
  rw [List.drop_set, if_neg (by omega), Nat.sub_self, h, List.set_cons_zero]
theorem drop_next {β : Type} {ys : List β} {i : Nat} {e : β} {r : List β} (h : ys.drop i = e :: r) : ys.drop (i + 1) = r := by
  rw [← List.drop_drop, h]; rfl
end Go.Vs
