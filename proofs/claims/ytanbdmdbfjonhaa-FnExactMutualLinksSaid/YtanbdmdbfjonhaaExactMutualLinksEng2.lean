/- What a function of the program does to its memory, step by step. -/
import Derived.Test.YtanbdmdbfjonhaaExactMutualLinksEng1
import Derived.LaidEql
set_option linter.unusedVariables false
set_option linter.unusedSimpArgs false
namespace Go.Vs
open Go

/-- A record with a pointer to each of two trees below it: an item, a number, and the two. -/
inductive Tr (α : Type) where
  | nil
  | node (x : α) (n : Int) (l r : Tr α)
/-- What the record holds. -/
def Tr.get {α : Type} : Tr α → Option (α × Int × Tr α × Tr α)
  | .nil => none
  | .node x n l r => some (x, n, l, r)
def Tr.isNil {α : Type} : Tr α → Bool
  | .nil => true
  | .node .. => false
def Tr.mk {α : Type} (p : α × Int × Tr α × Tr α) : Tr α := .node p.1 p.2.1 p.2.2.1 p.2.2.2
section
variable {α : Type} [Rp α]
/-- A pointer to a published tree. -/
def RT (lo : Nat) (σ : St) : Value → Tr α → Prop
  | v, .nil => v = .pointer none
  | v, .node x n l r => ∃ b o c vl vr, v = pt b o ∧ lo ≤ b ∧ o + (Rp.sz α + 3) ≤ σ.vis b ∧ Rp.rp lo σ c x ∧ RT lo σ vl l ∧ RT lo σ vr r ∧
      ∀ j, (h : j < (c ++ [I n, vl, vr]).length) → σ.cell b (o + j) = some (c ++ [I n, vl, vr])[j]

theorem RT.plain {lo : Nat} {σ : St} {v : Value} {t : Tr α} (h : RT lo σ v t) : plain v = true := by
  cases t with
  | nil => rw [show v = .pointer none from h]; rfl
  | node x n l r => obtain ⟨b, o, c, vl, vr, rfl, _⟩ := h; rfl
theorem RT.extL {lo : Nat} {σ σ' : St} (hE : ExtL lo σ σ') : ∀ {t : Tr α} {v : Value}, RT lo σ v t → RT lo σ' v t
  | .nil, _, h => h
  | .node x n l r, _, ⟨b, o, c, vl, vr, h1, h2, h3, h4, h5, h6, h7⟩ => by
    refine ⟨b, o, c, vl, vr, h1, h2, Nat.le_trans h3 (hE.vis b h2), Rp.extL hE h4, RT.extL hE h5, RT.extL hE h6, fun j hj => ?_⟩
    have hl : (c ++ [I n, vl, vr]).length = Rp.sz α + 3 := by rw [List.length_append, Rp.len h4]; rfl
    rw [hE.cell b _ h2 (by omega)]
    exact h7 j hj
theorem RT.low {lo lo' : Nat} {σ : St} (hl : lo' ≤ lo) : ∀ {t : Tr α} {v : Value}, RT lo σ v t → RT lo' σ v t
  | .nil, _, h => h
  | .node x n l r, _, ⟨b, o, c, vl, vr, h1, h2, h3, h4, h5, h6, h7⟩ => ⟨b, o, c, vl, vr, h1, Nat.le_trans hl h2, h3, Rp.low hl h4, RT.low hl h5, RT.low hl h6, h7⟩
instance : Rp (Tr α) where
  sz := 1
  rp lo σ cs t := ∃ v, cs = [v] ∧ RT lo σ v t
  pos := by decide
  len := by rintro _ _ _ _ ⟨v, rfl, _⟩; rfl
  extL := by rintro _ _ _ _ _ hE ⟨v, rfl, h⟩; exact ⟨v, rfl, h.extL hE⟩
  low := by rintro _ _ _ _ _ hl ⟨v, rfl, h⟩; exact ⟨v, rfl, h.low hl⟩
  one := by
    rintro _ _ _ _ ⟨v, rfl, h⟩ c hc
    simp only [List.mem_singleton] at hc
    rw [hc]; exact h.plain

/-- What lies behind the pointer. -/
theorem RT.at' {lo : Nat} {σ : St} {v : Value} {t : Tr α} {p : α × Int × Tr α × Tr α} (h : RT lo σ v t) (hp : t.get = some p) : ∃ b o, v = pt b o ∧ At lo σ b o p := by
  cases t with
  | nil => cases hp
  | node x n l r =>
    cases hp
    obtain ⟨b, o, c, vl, vr, h1, h2, h3, h4, h5, h6, h7⟩ := h
    exact ⟨b, o, h1, c ++ [I n, vl, vr], ⟨c, [I n, vl, vr], rfl, h4, [I n], [vl, vr], rfl, rfl, [vl], [vr], rfl, ⟨vl, rfl, h5⟩, ⟨vr, rfl, h6⟩⟩, h7⟩

theorem RT.ex {lo : Nat} {σ : St} {v : Value} {t : Tr α} {p : α × Int × Tr α × Tr α} (h : RT lo σ v t) (hp : t.get = some p) : ∃ b o, v = pt b o := by
  obtain ⟨b, o, h, _⟩ := h.at' hp
  exact ⟨b, o, h⟩
theorem RT.at {lo : Nat} {σ : St} {v : Value} {t : Tr α} {p : α × Int × Tr α × Tr α} {b o : Nat} (h : RT lo σ v t) (hp : t.get = some p) (hv : v = pt b o) : At lo σ b o p := by
  obtain ⟨b', o', h1, h2⟩ := h.at' hp
  rw [hv] at h1
  cases h1
  exact h2
theorem RT.hmd {S : BS} {lo : Nat} {σ σ' : St} {v u : Value} {t : Tr α} {p : α × Int × Tr α × Tr α} {b o : Nat} (h : RT lo σ v t) (hp : t.get = some p) (hv : v = pt b o) {k : Nat} (hk : k < Rp.sz α + 3)
    (hc : HCell σ.w.heap b (o + k) = some u) (m : Md S σ σ') : HCell σ'.w.heap b (o + k) = some u := by
  cases t with
  | nil => cases hp
  | node x n l r =>
    obtain ⟨b', o', c, vl, vr, h1, h2, h3, _⟩ := h
    rw [hv] at h1
    cases h1
    rw [HCell_eq] at hc ⊢
    exact (m.ext.cell b (o + k) (by omega)).trans hc
variable {S0 : BS} {σ0 σ : St} {L R : List Ch} {el lo b i : Nat} {v : Value} {t : Tr α} {cs : List Value}
end

section
variable {α : Type} [Rp α] {P : Program} {H : Array Obj} {n lo : Nat} {ρ : Nat → Value} {d : Option Nat} {ty T T' : TypeId} {pos : String} {af : Array Edge} {gd : Option (Nat × Bool)} {x y : Operand} {v : Value} {t : Tr α} {σ : St}
end
end Go.Vs

namespace Go.Vs
open Go

instance : Rp Value where
  sz := 1
  rp _ _ cs x := cs = [x] ∧ plain x = true
  pos := by decide
  len := by rintro _ _ _ _ ⟨rfl, _⟩; rfl
  extL := fun _ h => h
  low := fun _ h => h
  one := by rintro _ _ _ _ ⟨rfl, h⟩; simpa using h
instance : Sc Value := ⟨fun h => h⟩

section
variable {S0 : BS} {σ0 σ : St} {L K R : List Ch} {c : Ch}
theorem Hp.bigNil (H : Hp S0 σ0 σ R) : Hp S0 σ0 σ (Ch.big [] :: R) := H.add (d := Ch.big []) ⟨trivial, trivial⟩ (fun _ h => h)
theorem Hp.bigCons (H : Hp S0 σ0 σ (c :: Ch.big K :: R)) : Hp S0 σ0 σ (Ch.big (c :: K) :: R) :=
  ⟨H.md, ⟨⟨⟨H.all.1, H.all.2.1.1⟩, ⟨fun b hb h => H.ap.1 b hb (.inl h), H.all.2.1.2⟩⟩, H.all.2.2⟩,
    ⟨fun b hb h => hb.elim (fun hb => H.ap.1 b hb (.inr h)) (fun hb => H.ap.2.1 b hb h), H.ap.2.2⟩,
    fun b hb => H.org b (hb.elim (fun hb => hb.elim .inl (fun hb => .inr (.inl hb))) (fun hb => .inr (.inr hb)))⟩
theorem Hp.bigSnoc (H : Hp S0 σ0 σ (c :: Ch.big K :: R)) : Hp S0 σ0 σ (Ch.big (K ++ [c]) :: R) :=
  ⟨H.md, ⟨⟨allAs_append.2 ⟨H.all.2.1.1, H.all.1, trivial⟩, apart_append.2 ⟨H.all.2.1.2, ⟨fun _ _ h => h, trivial⟩, fun b hb h => h.elim (fun h => H.ap.1 b h (.inl hb)) id⟩⟩, H.all.2.2⟩,
    ⟨fun b hb h => (cov_append.1 hb).elim (fun hb => H.ap.2.1 b hb h) (fun hb => hb.elim (fun hb => H.ap.1 b hb (.inr h)) id), H.ap.2.2⟩,
    fun b hb => H.org b (hb.elim (fun hb => (cov_append.1 hb).elim (fun hb => .inr (.inl hb)) (fun hb => hb.elim .inl (fun h => h.elim))) (fun hb => .inr (.inr hb)))⟩
theorem Hp.unbig (H : Hp S0 σ0 σ (Ch.big (c :: K) :: R)) : Hp S0 σ0 σ (c :: Ch.big K :: R) :=
  ⟨H.md, ⟨H.all.1.1.1, ⟨H.all.1.1.2, H.all.1.2.2⟩, H.all.2⟩,
    ⟨fun b hb h => h.elim (H.all.1.2.1 b hb) (H.ap.1 b (.inl hb)), ⟨fun b hb h => H.ap.1 b (.inr hb) h, H.ap.2⟩⟩,
    fun b hb => H.org b (hb.elim (fun hb => .inl (.inl hb)) (fun hb => hb.elim (fun hb => .inl (.inr hb)) .inr))⟩
end

/-- Data with one list in it: how they lie in memory, with the slice's value in the list's place. -/
class Dl (α : Type) (β : outParam Type) [Rp α] [Rp β] where
  sh : α → Value → β
  inn : α → List Int
  sz : Rp.sz α = Rp.sz β
  rp : ∀ {lo lo' : Nat} {σ : St} {cs : List Value} {x : α} {h : Value}, Rp.rp lo σ cs (sh x h) → RS lo' σ h (inn x) → Rp.rp lo' σ cs x
instance : Dl (List Int) Value where
  sh _ h := h
  inn x := x
  sz := rfl
  rp := by rintro _ _ _ _ _ _ ⟨rfl, _⟩ h; exact ⟨_, rfl, h⟩
instance : Dl (Int × List Int × Int) (Int × Value × Int) where
  sh x h := (x.1, h, x.2.2)
  inn x := x.2.1
  sz := rfl
  rp := by
    rintro _ _ _ _ _ _ ⟨_, _, rfl, h1, ⟨_, _, rfl, ⟨rfl, _⟩, h3⟩⟩ h
    exact ⟨_, _, rfl, h1, ⟨_, _, rfl, ⟨_, rfl, h⟩, h3⟩⟩

section
variable {α β : Type} [Rp α] [Rp β] [Dl α β]
def dsh (p : α × Value) : β := Dl.sh p.1 p.2
def dow (lo : Nat) (p : α × Value) : Ch := Ch.own lo lo p.2 (Dl.inn p.1)

/-- The chunks of such a slice. -/
structure Dp (lo : Nat) (v : Value) (xs : List α) (K : List Ch) : Prop where
  ex : ∃ ps : List (α × Value), xs = ps.map (·.1) ∧ K = Ch.own lo lo v (ps.map dsh) :: ps.map (dow lo)

theorem pub_inner {lo : Nat} : ∀ (ps : List (α × Value)) (σ : St), allAs σ (ps.map (dow lo)) → apart (ps.map (dow lo)) →
    ∃ σ', Pb (cov (ps.map (dow lo))) σ σ' ∧ ∀ p ∈ ps, RS 0 σ' p.2 (Dl.inn p.1)
  | [], σ, _, _ => ⟨σ, ⟨rfl, rfl, fun _ _ => rfl, fun _ => Nat.le_refl _⟩, by simp⟩
  | p :: ps, σ, ⟨h1, h2⟩, ⟨h3, h4⟩ => by
    obtain ⟨σ1, p1, hR⟩ := Ow.pb (h1 : Ow σ lo lo p.2 (Dl.inn p.1))
    obtain ⟨σ2, p2, h5⟩ := pub_inner ps σ1 (allAs_md h2 p1.md (fun b hb hb' => h3 b hb' hb)) h4
    refine ⟨σ2, (p1.trans p2).mono (fun b hb => hb), ?_⟩
    intro q hq
    rcases List.mem_cons.1 hq with rfl | hq
    · exact hR.ext p2.md.ext
    · exact h5 q hq

theorem Dp.lends {lo : Nat} {v : Value} {xs : List α} {K : List Ch} (h : Dp lo v xs K) : Lends K v xs := by
  obtain ⟨ps, rfl, rfl⟩ := h.ex
  rintro σ ⟨h1, h2⟩ ⟨h3, h4⟩
  obtain ⟨σ1, p1, hR⟩ := pub_inner ps σ h2 h4
  have h1' : Ow σ1 lo lo v (ps.map dsh) := (Ch.own lo lo v (ps.map dsh)).hst p1.md (fun b hb hb' => h3 b hb hb') h1
  have h5 : Ow σ1 lo 0 v (ps.map (·.1)) := by
    rcases h1' with ⟨rfl, hz⟩ | ⟨b, o, c, C, T, rfl, h2, h3, h4, h5, h6, h7⟩
    · have : ps = [] := by simpa using hz
      subst this; exact .inl ⟨rfl, rfl⟩
    · refine .inr ⟨b, o, c, C, T, by simp, h2, h3, by simpa using h4, by rw [Dl.sz (α := α) (β := β)]; exact h5, h6, fun i hi => ?_⟩
      have hi' : i < ps.length := by simpa using hi
      obtain ⟨cs, h8, h9⟩ := h7 i (by simpa using hi)
      refine ⟨cs, ?_, fun j hj => by rw [Dl.sz (α := α) (β := β)]; exact h9 j hj⟩
      simp only [List.getElem_map] at h8 ⊢
      exact Dl.rp h8 (hR _ (List.getElem_mem hi'))
  obtain ⟨σ2, p2, h6⟩ := Ow.pb h5
  exact ⟨σ2, (p1.trans p2).mono (fun b hb => hb.elim .inr .inl), h6⟩
end

/-! ## Filling -/
theorem set_step {β : Type} (A : List β) (z e : β) (m : Nat) : (A ++ List.replicate (m + 1) z).set A.length e = (A ++ [e]) ++ List.replicate m z := by
  rw [List.set_append_right _ _ (Nat.le_refl _), Nat.sub_self, List.replicate_succ, List.set_cons_zero]
  simp
theorem gidx_step {β : Type} (A : List β) (z : β) (m : Nat) (i : Int) (h : i = (A.length : Int)) : gidx (A ++ List.replicate (m + 1) z) i = some z := by
  subst h
  unfold gidx
  rw [if_pos (by omega)]
  simp [List.replicate_succ]
theorem gidx_drop {β : Type} {ys : List β} {i : Nat} {e : β} {r : List β} (h : ys.drop i = e :: r) : gidx ys (i : Int) = some e := by
  unfold gidx
  rw [if_pos (by omega)]
  have := congrArg (·[0]?) h
  simpa using this
theorem drop_set {β : Type} {ys : List β} {i : Nat} {e e' : β} {r : List β} (h : ys.drop i = e :: r) : (ys.set i e').drop i = e' :: r := by
  have hl : i < ys.length := by
    have := congrArg List.length h
    simp at this; omega
  rw [List.drop_set, if_neg (by omega), Nat.sub_self, h, List.set_cons_zero]
theorem drop_next {β : Type} {ys : List β} {i : Nat} {e : β} {r : List β} (h : ys.drop i = e :: r) : ys.drop (i + 1) = r := by
  rw [← List.drop_drop, h]; rfl
end Go.Vs

namespace Go.Vs
open Go

/-! ## What maps hold -/
section
variable {α : Type}
def mget (m : List (Int × List α)) (k : Int) : List α := match m with
  | [] => []
  | p :: r => if p.1 = k then p.2 else mget r k
def mput (m : List (Int × List α)) (k : Int) (xs : List α) : List (Int × List α) := match m with
  | [] => [(k, xs)]
  | p :: r => if p.1 = k then (k, xs) :: r else p :: mput r k xs
end
def vfind : List (Int × Value) → Int → Nat → Option (Nat × Value)
  | [], _, _ => none
  | p :: r, k, i => if k = p.1 then some (i, p.2) else vfind r k (i + 1)
/-- The entries of a map. -/
def EntsL (es : List (Int × Value)) (E : List MapEntry) : Prop := E.map (fun e => (e.key, e.val)) = es.map (fun p => (I p.1, p.2))
theorem findNow_ok (k : Int) : ∀ (E : List MapEntry) (es : List (Int × Value)) (i : Nat), EntsL es E → Instr.findNow (.int .i64) (I k) E i = some (vfind es k i)
  | [], [], _, _ => rfl
  | [], _ :: _, _, h => by simp [EntsL] at h
  | _ :: _, [], _, h => by simp [EntsL] at h
  | e :: E, p :: es, i, h => by
    simp only [EntsL, List.map_cons, List.cons.injEq, Prod.mk.injEq] at h
    obtain ⟨⟨h1, h2⟩, h3⟩ := h
    have hs : Instr.sameNow (.int .i64) (I k) (I p.1) = some (k == p.1) := rfl
    unfold Instr.findNow vfind
    rw [h1, hs]
    by_cases hk : k = p.1
    · subst hk; simp [h2]
    · have : (k == p.1) = false := by simpa using hk
      rw [this, if_neg hk]
      exact findNow_ok k E es (i + 1) h3
theorem vfind_none {es : List (Int × Value)} {k : Int} : ∀ {i : Nat}, (∀ p ∈ es, p.1 ≠ k) → vfind es k i = none := by
  induction es with
  | nil => intro _ _; rfl
  | cons p r ih =>
    intro i h
    unfold vfind
    rw [if_neg (fun e => h p (by simp) e.symm)]
    exact ih (fun q hq => h q (by simp [hq]))
theorem vfind_some {A B : List (Int × Value)} {k : Int} {v : Value} : ∀ {i : Nat}, (∀ p ∈ A, p.1 ≠ k) → vfind (A ++ (k, v) :: B) k i = some (i + A.length, v) := by
  induction A with
  | nil => intro i _; simp [vfind]
  | cons p r ih =>
    intro i h
    simp only [List.cons_append]
    unfold vfind
    rw [if_neg (fun e => h p (by simp) e.symm), ih (fun q hq => h q (by simp [hq]))]
    simp; omega

/-! ## Chunks -/
def Ch.mp (lo b : Nat) (es : List (Int × Value)) : Ch where
  dup := false
  fp i := i = b
  as σ := (∃ E clk, σ.w.heap[b]? = some (.map E clk) ∧ EntsL es E.toList) ∧ σ.vis b = 0 ∧ lo ≤ b
  hdup h := by cases h
  hlt h i e := by subst e; obtain ⟨⟨E, clk, h1, _⟩, _⟩ := h; exact lt_of_block h1
  hst m hd h := by
    obtain ⟨⟨E, clk, h1, h2⟩, h3, h4⟩ := h
    have hb := lt_of_block h1
    have hS := hd _ rfl
    exact ⟨⟨E, clk, (m.block _ hb hS).trans h1, h2⟩, (m.vis _ hb hS).trans h3, h4⟩

section
variable {α : Type} [Rp α]
abbrev Pm (α : Type) := Int × Value × List α
def pmE (p : Pm α) : Int × Value := (p.1, p.2.1)
def pmM (p : Pm α) : Int × List α := (p.1, p.2.2)
def pmC (lo el : Nat) (p : Pm α) : Ch := Ch.own lo el p.2.1 p.2.2
/-- The chunks of a map whose values are its own. -/
structure Mp (lo el b : Nat) (m : List (Int × List α)) (K : List Ch) : Prop where
  ex : ∃ ps : List (Pm α), m = ps.map pmM ∧ K = Ch.mp lo b (ps.map pmE) :: ps.map (pmC lo el)
/-- .. of which one value, v at k, has been taken out. -/
structure MpH (lo el b : Nat) (m : List (Int × List α)) (k : Int) (v : Value) (K : List Ch) : Prop where
  ex : (∃ (A : List (Pm α)) (xs : List α) (B : List (Pm α)), (∀ q ∈ A, q.1 ≠ k) ∧ m = (A ++ (k, v, xs) :: B).map pmM ∧ K = Ch.mp lo b ((A ++ (k, v, xs) :: B).map pmE) :: (A ++ B).map (pmC lo el)) ∨
    ∃ ps : List (Pm α), (∀ q ∈ ps, q.1 ≠ k) ∧ v = .slice none 0 0 ∧ m = ps.map pmM ∧ K = Ch.mp lo b (ps.map pmE) :: ps.map (pmC lo el)
theorem Mp.nil {lo el b : Nat} : Mp (α := α) lo el b [] [Ch.mp lo b []] := ⟨⟨[], rfl, rfl⟩⟩

omit [Rp α] in
theorem key_split (k : Int) : ∀ ps : List (Pm α), (∃ A v xs B, ps = A ++ (k, v, xs) :: B ∧ ∀ q ∈ A, q.1 ≠ k) ∨ ∀ q ∈ ps, q.1 ≠ k
  | [] => .inr (by simp)
  | p :: r => by
    by_cases h : p.1 = k
    · refine .inl ⟨[], p.2.1, p.2.2, r, ?_, by simp⟩
      rw [← h]; rfl
    · rcases key_split k r with ⟨A, v, xs, B, rfl, hA⟩ | hr
      · refine .inl ⟨p :: A, v, xs, B, rfl, fun q hq => ?_⟩
        rcases List.mem_cons.1 hq with rfl | hq
        · exact h
        · exact hA q hq
      · refine .inr fun q hq => ?_
        rcases List.mem_cons.1 hq with rfl | hq
        · exact h
        · exact hr q hq
omit [Rp α] in
theorem mget_some {A B : List (Pm α)} {k : Int} {v : Value} {xs : List α} (h : ∀ q ∈ A, q.1 ≠ k) : mget ((A ++ (k, v, xs) :: B).map pmM) k = xs := by
  induction A with
  | nil => simp [mget, pmM]
  | cons p r ih =>
    simp only [List.cons_append, List.map_cons]
    unfold mget
    rw [if_neg (show (pmM p).1 ≠ k from h p (by simp))]
    exact ih (fun q hq => h q (by simp [hq]))
omit [Rp α] in
theorem mget_none {ps : List (Pm α)} {k : Int} (h : ∀ q ∈ ps, q.1 ≠ k) : mget (ps.map pmM) k = [] := by
  induction ps with
  | nil => rfl
  | cons p r ih =>
    simp only [List.map_cons]
    unfold mget
    rw [if_neg (show (pmM p).1 ≠ k from h p (by simp))]
    exact ih (fun q hq => h q (by simp [hq]))
omit [Rp α] in
theorem mput_some {A B : List (Pm α)} {k : Int} {v v' : Value} {xs ys : List α} (h : ∀ q ∈ A, q.1 ≠ k) : mput ((A ++ (k, v, xs) :: B).map pmM) k ys = (A ++ (k, v', ys) :: B).map pmM := by
  induction A with
  | nil => simp [mput, pmM]
  | cons p r ih =>
    simp only [List.cons_append, List.map_cons]
    unfold mput
    rw [if_neg (show (pmM p).1 ≠ k from h p (by simp)), ih (fun q hq => h q (by simp [hq]))]
omit [Rp α] in
theorem mput_none {ps : List (Pm α)} {k : Int} {v' : Value} {ys : List α} (h : ∀ q ∈ ps, q.1 ≠ k) : mput (ps.map pmM) k ys = (ps ++ [(k, v', ys)]).map pmM := by
  induction ps with
  | nil => rfl
  | cons p r ih =>
    simp only [List.cons_append, List.map_cons]
    unfold mput
    rw [if_neg (show (pmM p).1 ≠ k from h p (by simp)), ih (fun q hq => h q (by simp [hq]))]
end

section
variable {S0 : BS} {σ0 σ σ' : St} {L K R A B : List Ch} {c : Ch}
/-- One of the chunks that are one, by itself; and back. -/
theorem Hp.bigTake (H : Hp S0 σ0 σ (Ch.big (A ++ c :: B) :: R)) : Hp S0 σ0 σ (c :: Ch.big (A ++ B) :: R) := by
  obtain ⟨⟨⟨h1, h2⟩, h3⟩, ⟨h4, h5⟩⟩ := And.intro H.all H.ap
  obtain ⟨a1, a2, a3⟩ := allAs_append.1 h1
  obtain ⟨p1, ⟨p2, p3⟩, p4⟩ := apart_append.1 h2
  refine ⟨H.md, ⟨a2, ⟨allAs_append.2 ⟨a1, a3⟩, apart_append.2 ⟨p1, p3, fun b hb h => p4 b hb (.inr h)⟩⟩, h3⟩, ⟨fun b hb h => ?_, ⟨fun b hb h => ?_, h5⟩⟩, fun b hb => H.org b ?_⟩
  · rcases h with h | h
    · rcases cov_append.1 h with h | h
      · exact p4 b h (.inl hb)
      · exact p2 b hb h
    · exact h4 b (cov_append.2 (.inr (.inl hb))) h
  · exact h4 b (cov_append.2 ((cov_append.1 hb).imp id .inr)) h
  · rcases hb with hb | hb | hb
    · exact .inl (cov_append.2 (.inr (.inl hb)))
    · exact .inl (cov_append.2 ((cov_append.1 hb).imp id .inr))
    · exact .inr hb
theorem Hp.bigPut (H : Hp S0 σ0 σ (c :: Ch.big (A ++ B) :: R)) : Hp S0 σ0 σ (Ch.big (A ++ c :: B) :: R) := by
  obtain ⟨⟨h0, ⟨h1, h2⟩, h3⟩, ⟨h4, h5, h6⟩⟩ := And.intro H.all H.ap
  obtain ⟨a1, a2⟩ := allAs_append.1 h1
  obtain ⟨p1, p2, p3⟩ := apart_append.1 h2
  refine ⟨H.md, ⟨⟨allAs_append.2 ⟨a1, h0, a2⟩, apart_append.2 ⟨p1, ⟨fun b hb h => h4 b hb (.inl (cov_append.2 (.inr h))), p2⟩, fun b hb h => ?_⟩⟩, h3⟩, ⟨fun b hb h => ?_, h6⟩, fun b hb => H.org b ?_⟩
  · rcases h with h | h
    · exact h4 b h (.inl (cov_append.2 (.inl hb)))
    · exact p3 b hb h
  · rcases cov_append.1 hb with hb | hb | hb
    · exact h5 b (cov_append.2 (.inl hb)) h
    · exact h4 b hb (.inr h)
    · exact h5 b (cov_append.2 (.inr hb)) h
  · rcases hb with hb | hb
    · rcases cov_append.1 hb with hb | hb | hb
      · exact .inr (.inl (cov_append.2 (.inl hb)))
      · exact .inl hb
      · exact .inr (.inl (cov_append.2 (.inr hb)))
    · exact .inr (.inr hb)
end

/-! ## Taking a value out -/
section
variable {α : Type} [Rp α] {S0 : BS} {σ0 σ σ' : St} {L K R : List Ch} {lo el b i : Nat} {m : List (Int × List α)} {k : Int} {v : Value}
theorem Hp.mpOut (H : Hp S0 σ0 σ L) (k : Int) (i : Nat) (h : pick L i = some (Ch.big K, R)) (hK : Mp lo el b m K) : ∃ v K', Hp S0 σ0 σ (Ch.own lo el v (mget m k) :: Ch.big K' :: R) ∧ MpH lo el b m k v K' := by
  have H1 := H.front h
  obtain ⟨ps, rfl, rfl⟩ := hK.ex
  rcases key_split k ps with ⟨A, v, xs, B, rfl, hA⟩ | hn
  · refine ⟨v, _, ?_, ⟨.inl ⟨A, xs, B, hA, rfl, rfl⟩⟩⟩
    rw [mget_some hA]
    rw [List.map_append (f := pmC lo el), List.map_cons (f := pmC lo el)] at H1
    have := Hp.bigTake (A := Ch.mp lo b ((A ++ (k, v, xs) :: B).map pmE) :: A.map (pmC lo el)) (c := Ch.own lo el v xs) (B := B.map (pmC lo el)) H1
    rw [List.map_append (f := pmC lo el)]
    exact this
  · refine ⟨.slice none 0 0, _, ?_, ⟨.inr ⟨ps, hn, rfl, rfl, rfl⟩⟩⟩
    rw [mget_none hn]
    exact H1.add (d := Ch.own lo el (.slice none 0 0) []) Ow.nil (fun b hb => by cases hb)

/-- What a map has at a key. -/
def LkH (H : Array Obj) (b : Nat) (k : Int) (v : Value) : Prop := ∃ E clk es, H[b]? = some (.map E clk) ∧ EntsL es E.toList ∧ ((∃ i, vfind es k 0 = some (i, v)) ∨ (vfind es k 0 = none ∧ v = .slice none 0 0))
theorem LkH.md {S : BS} (h : LkH σ.w.heap b k v) (m : Md S σ σ') (hb : ¬ S b) : LkH σ'.w.heap b k v := by
  obtain ⟨E, clk, es, h1, h2⟩ := h
  exact ⟨E, clk, es, (m.block b (lt_of_block h1) hb).trans h1, h2⟩
omit [Rp α] in
theorem pmE_ne {ps : List (Pm α)} (h : ∀ q ∈ ps, q.1 ≠ k) : ∀ p ∈ ps.map pmE, p.1 ≠ k := by
  intro p hp
  obtain ⟨q, hq, rfl⟩ := List.mem_map.1 hp
  exact h q hq
theorem MpH.look (h : MpH lo el b m k v K) (H : Hp S0 σ0 σ L) (i : Nat) (hn : nth L i = some (Ch.big K)) : LkH σ.w.heap b k v := by
  have hb : allAs σ K ∧ apart K := H.get hn
  rcases h.ex with ⟨A, xs, B, hA, -, rfl⟩ | ⟨ps, hps, rfl, -, rfl⟩
  · obtain ⟨⟨E, clk, h1, h2⟩, _⟩ := hb.1.1
    refine ⟨E, clk, _, h1, h2, .inl ⟨0 + (A.map pmE).length, ?_⟩⟩
    rw [List.map_append, List.map_cons]
    exact vfind_some (pmE_ne hA)
  · obtain ⟨⟨E, clk, h1, h2⟩, _⟩ := hb.1.1
    exact ⟨E, clk, _, h1, h2, .inr ⟨vfind_none (pmE_ne hps), rfl⟩⟩
end

/-! ## Operations -/
theorem run_getMap {P : Program} {w : World} {r : Nat} {E : Array MapEntry} {clk : Nat} (h : w.heap[r]? = some (.map E clk)) : (getObj r).run P w = .ok (.map E clk) w := by
  simp only [getObj, Sem.run, h]
theorem run_setMap {P : Program} {w : World} {r : Nat} {E E' : Array MapEntry} {clk clk' : Nat} (h : w.heap[r]? = some (.map E clk)) : (setObj r (.map E' clk')).run P w = .ok () (World.put w r (.map E' clk')) := by
  simp only [setObj, Sem.run, h]; rfl
theorem run_findKey {P : Program} {w : World} {T : TypeId} {k : Int} {E : List MapEntry} {es : List (Int × Value)} (hT : P.underlying T = some (.int .i64)) (h : EntsL es E) : (Instr.findKey T (I k) E).run P w = .ok (vfind es k 0) w := by
  simp only [Instr.findKey, underlying, Sem.run_bind, run_program, Result.andThen_ok, hT, Sem.run_pure, findNow_ok k E es 0 h]
theorem run_checkKey {P : Program} {w : World} {T : TypeId} {k : Int} {e : Bool} (hT : P.underlying T = some (.int .i64)) : (Instr.checkKey e 10000 T (I k)).run P w = .ok () w := by
  show (Instr.checkKey e (9999 + 1) T (I k)).run P w = _
  unfold Instr.checkKey
  simp only [underlying, Sem.run_bind, run_program, Result.andThen_ok, hT, Sem.run_pure]
section
variable {P : Program} {n : Nat} {ρ : Nat → Value} {dst : Option Nat} {ty T Tk Te : TypeId} {pos : String} {af : Array Edge} {gd : Option (Nat × Bool)} {x y z : Operand} {v v' : Value} {b s bt lo el : Nat} {k : Int} {H : Array Obj}
theorem rv_lookup (hT : P.underlying T = some (.map Tk Te)) (hk : P.underlying Tk = some (.int .i64)) (hz : TI P Te (.slice none 0 0) s bt) (hx : ev n ρ x = .map (some b)) (hy : ev n ρ y = I k) (h : LkH H b k v) :
    RunV P H n ρ ⟨dst, .lookup T x y false, ty, pos, af, gd⟩ v := fun w hw => by
  obtain ⟨E, clk, es, h1, h2, h3⟩ := h
  rw [← hw] at h1
  have e1 := run_getMap (P := P) h1
  have e2 := run_checkKey (P := P) (w := w) (k := k) (e := E.isEmpty) hk
  have e3 := run_findKey (P := P) (w := w) (k := k) hk h2
  have e4 := run_zero hz w
  rcases h3 with ⟨i, h3⟩ | ⟨h3, rfl⟩
  · rw [h3] at e3
    simp [execOp, hx, hy, Instr.lookup, underlying, hT, e1, e2, e3]
  · rw [h3] at e3
    simp [execOp, hx, hy, Instr.lookup, underlying, hT, e1, e2, e3, e4]

variable {α : Type} [Rp α] {S0 : BS} {σ0 σ σ' : St} {L K R : List Ch} {m : List (Int × List α)} {xs : List α}
theorem ex_makeMap (α : Type) [Rp α] (el : Nat) (H' : Hp S0 σ0 σ L) (hlo : lo ≤ σ0.size) :
    Ex P σ n ρ ⟨dst, .makeMap T none, ty, pos, af, gd⟩ fun v σ' => ∃ b K, v = .map (some b) ∧ Mp (α := α) lo el b [] K ∧ Hp S0 σ0 σ' (Ch.big K :: L) ∧ Md (cov []) σ σ' := by
  have m := St.new_mod σ (.map #[] 0) 0
  refine ⟨_, σ.new (.map #[] 0) 0, ?_, σ.size, [Ch.mp lo σ.size []], rfl, Mp.nil, ?_, m.md0⟩
  · simp [RunW, execOp, Instr.makeMap, newObj, Sem.run, St.new, World.mk']
  · have h1 : (Ch.mp lo σ.size []).as (σ.new (.map #[] 0) 0) := ⟨⟨#[], 0, St.new_new _ _ _, rfl⟩, St.new_vis _ _ _, Nat.le_trans hlo H'.size⟩
    refine Hp.frame0 (A' := [Ch.big [Ch.mp lo σ.size []]]) H' (Hp.fresh m (Ch.big [Ch.mp lo σ.size []]) ⟨⟨h1, trivial⟩, ⟨fun _ _ h => h, trivial⟩⟩ (fun b hb => ?_))
    rcases hb with hb | hb
    · exact Nat.le_of_eq (Eq.symm hb)
    · exact hb.elim
theorem ents_set {A B : List (Int × Value)} {k : Int} {v v' : Value} {E : Array MapEntry} (h : EntsL (A ++ (k, v) :: B) E.toList) :
    EntsL (A ++ (k, v') :: B) (E.modify A.length fun e => { e with key := I k, val := v' }).toList := by
  unfold EntsL at h ⊢
  rw [Array.toList_modify]
  have hl : A.length < E.toList.length := by
    have := congrArg List.length h
    simp at this ⊢; omega
  apply List.ext_getElem
  · have := congrArg List.length h
    simp at this ⊢; omega
  intro i h1 h2
  simp only [List.getElem_map, List.getElem_modify]
  have hi : i < E.toList.length := by simpa using h1
  have he : ((E.toList.map fun e => (e.key, e.val)))[i]'(by simpa using hi) = (((A ++ (k, v) :: B).map fun p => (I p.1, p.2)))[i]'(by rw [← h]; simpa using hi) := by simp only [h]
  simp only [List.getElem_map] at he
  by_cases hA : A.length = i
  · subst hA
    rw [if_pos rfl]
    simp
  · rw [if_neg hA, he]
    rcases Nat.lt_or_ge i A.length with hlt | hge
    · rw [List.getElem_append_left hlt, List.getElem_append_left hlt]
    · rw [List.getElem_append_right hge, List.getElem_append_right hge]
      obtain ⟨j, hj⟩ : ∃ j, i - A.length = j + 1 := ⟨i - A.length - 1, by omega⟩
      simp only [hj, List.getElem_cons_succ]
theorem ents_push {A : List (Int × Value)} {k : Int} {v' : Value} {E : Array MapEntry} {c : Nat} (h : EntsL A E.toList) : EntsL (A ++ [(k, v')]) (E.push { key := I k, val := v', born := c }).toList := by
  unfold EntsL at h ⊢
  simp [h]
theorem run_mapUpdate {w : World} {E : Array MapEntry} {clk : Nat} {es es' : List (Int × Value)} (hT : P.underlying T = some (.map Tk Te)) (hk : P.underlying Tk = some (.int .i64)) (h1 : w.heap[b]? = some (.map E clk)) (h2 : EntsL es E.toList)
    (h3 : (∃ A v B, es = A ++ (k, v) :: B ∧ (∀ p ∈ A, p.1 ≠ k) ∧ es' = A ++ (k, v') :: B) ∨ ((∀ p ∈ es, p.1 ≠ k) ∧ es' = es ++ [(k, v')])) :
    ∃ E' clk', (Instr.mapUpdate T (.map (some b)) (I k) v').run P w = .ok () (World.put w b (.map E' clk')) ∧ EntsL es' E'.toList := by
  have e1 := run_getMap (P := P) h1
  have e2 := run_checkKey (P := P) (w := w) (k := k) (e := false) hk
  have e3 := run_findKey (P := P) (w := w) (k := k) hk h2
  rcases h3 with ⟨A, v, B, rfl, hA, rfl⟩ | ⟨hn, rfl⟩
  · rw [vfind_some hA] at e3
    refine ⟨_, clk, ?_, ents_set (v' := v') h2⟩
    have hkey : ((E[A.length]?).map (·.key)).getD (I k) = I k := by
      have hl : A.length < E.toList.length := by
        have := congrArg List.length h2
        simp at this ⊢; omega
      have he : ((E.toList.map fun e => (e.key, e.val)))[A.length]'(by simpa using hl) = (((A ++ (k, v) :: B).map fun p => (I p.1, p.2)))[A.length]'(by simp) := by
        have h2' : E.toList.map (fun e => (e.key, e.val)) = (A ++ (k, v) :: B).map (fun p => (I p.1, p.2)) := h2
        simp only [h2']
      simp only [List.getElem_map, List.getElem_append_right (Nat.le_refl _), Nat.sub_self, List.getElem_cons_zero, Prod.mk.injEq] at he
      have hs : A.length < E.size := by simpa using hl
      rw [Array.getElem?_eq_getElem hs]
      simpa using he.1
    have hstay : (Instr.keyThatStays (I k) (I k)).run P w = .ok (I k) w := by
      have : Instr.sameBits 10000 (I k) (I k) = true := by
        show Instr.sameBits (9999 + 1) (.int .i64 k) (.int .i64 k) = true
        unfold Instr.sameBits; simp
      simp only [Instr.keyThatStays, this, if_true, Sem.run_pure]
    simp only [Nat.zero_add] at e3
    simp only [Instr.mapUpdate, underlying, Sem.run_bind, run_program, Result.andThen_ok, hT, Sem.run_pure, e1, e2, e3, hkey, hstay, run_setMap h1]
  · rw [vfind_none hn] at e3
    refine ⟨_, clk + 1, ?_, ents_push (v' := v') (c := clk) h2⟩
    simp only [Instr.mapUpdate, underlying, Sem.run_bind, run_program, Result.andThen_ok, hT, Sem.run_pure, e1, e2, e3, run_setMap h1]
theorem turn_mp {es es' : List (Int × Value)} {E' : Array MapEntry} {clk' : Nat} (Hh : Hp S0 σ0 σ (Ch.mp lo b es :: R)) (h2 : EntsL es' E'.toList) :
    Hp S0 σ0 (σ.put b (.map E' clk')) (Ch.mp lo b es' :: R) ∧ Md (fun i => i = b) σ (σ.put b (.map E' clk')) := by
  obtain ⟨⟨E, clk, h1, _⟩, h3, h4⟩ := Hh.head
  have hb := lt_of_block h1
  have m : Md (fun i => i = b) σ (σ.put b (.map E' clk')) := (St.put_mod h3).md.mono fun i hi => by cases hi; rfl
  exact ⟨Hp.frame1 (A' := [Ch.mp lo b es']) Hh (Hp.one (m.mono fun i hi => .inl hi) ⟨⟨E', clk', World.put_at _ hb, h2⟩, h3, h4⟩ (fun i hi _ => .inl hi)), m⟩
/-- A value, put (back) into the map. -/
theorem MpH.put (hK : MpH lo el b m k v K) (v' : Value) (ys : List α) : ∃ K2, Mp lo el b (mput m k ys) K2 ∧ ∀ {P : Program} {n : Nat} {ρ : Nat → Value} {dst : Option Nat} {ty T Tk Te : TypeId} {pos : String} {af : Array Edge} {gd : Option (Nat × Bool)} {x y z : Operand} {S0 : BS} {σ0 σ : St} {R : List Ch},
    Hp S0 σ0 σ (Ch.big K :: Ch.own lo el v' ys :: R) → P.underlying T = some (.map Tk Te) → P.underlying Tk = some (.int .i64) → ev n ρ x = .map (some b) → ev n ρ y = I k → ev n ρ z = v' →
    ExS P σ n ρ ⟨dst, .mapUpdate T x y z, ty, pos, af, gd⟩ fun σ' => Hp S0 σ0 σ' (Ch.big K2 :: R) ∧ Md (fun i => i = b) σ σ' := by
  have swap : ∀ {S0 : BS} {σ0 σ : St} {c d : Ch} {R : List Ch}, Hp S0 σ0 σ (c :: d :: R) → Hp S0 σ0 σ (d :: c :: R) := fun H => H.front (i := 1) rfl
  rcases hK.ex with ⟨A, xs, B, hA, rfl, rfl⟩ | ⟨ps, hps, rfl, rfl, rfl⟩
  · refine ⟨_, ⟨⟨A ++ (k, v', ys) :: B, mput_some hA, rfl⟩⟩, ?_⟩
    intro P n ρ dst ty T Tk Te pos af gd x y z S0 σ0 σ R H hT hk hx hy hz
    have H1 := H.unbig
    obtain ⟨⟨E, clk, h1, h2⟩, h3, h4⟩ := H1.head
    obtain ⟨E', clk', hr, h5⟩ := run_mapUpdate (P := P) (v' := v') (k := k) (es' := (A ++ (k, v', ys) :: B).map pmE) hT hk h1 h2 (.inl ⟨A.map pmE, v, B.map pmE, by rw [List.map_append]; rfl, pmE_ne hA, by rw [List.map_append]; rfl⟩)
    obtain ⟨H2, m2⟩ := turn_mp (clk' := clk') H1 h5
    refine ⟨σ.put b (.map E' clk'), ?_, ?_, m2⟩
    · simp [RunS, execOp, hx, hy, hz, hr, St.put]
    · rw [List.map_append (f := pmC lo el)] at H2
      have H3 := swap H2.tail
      have H4 := Hp.bigPut (A := A.map (pmC lo el)) (c := Ch.own lo el v' ys) (B := B.map (pmC lo el)) H3
      have H5 : Hp S0 σ0 (σ.put b (.map E' clk')) (Ch.mp lo b ((A ++ (k, v', ys) :: B).map pmE) :: Ch.big (A.map (pmC lo el) ++ Ch.own lo el v' ys :: B.map (pmC lo el)) :: R) := by
        refine ⟨H2.md, ⟨H2.all.1, H4.all⟩, ⟨fun i hi hc => ?_, H4.ap⟩, fun i hi => ?_⟩
        · refine H2.ap.1 i hi ?_
          rcases hc with hc | hc
          · rcases cov_append.1 hc with hc | hc | hc
            · exact .inl (cov_append.2 (.inl hc))
            · exact .inr (.inl hc)
            · exact .inl (cov_append.2 (.inr hc))
          · exact .inr (.inr hc)
        · rcases hi with hi | hi
          · exact H2.org i (.inl hi)
          · exact H4.org i hi
      have H6 := H5.bigCons
      rw [List.map_append (f := pmC lo el), List.map_cons (f := pmC lo el)]
      exact H6
  · refine ⟨_, ⟨⟨ps ++ [(k, v', ys)], mput_none hps, rfl⟩⟩, ?_⟩
    intro P n ρ dst ty T Tk Te pos af gd x y z S0 σ0 σ R H hT hk hx hy hz
    have H1 := H.unbig
    obtain ⟨⟨E, clk, h1, h2⟩, h3, h4⟩ := H1.head
    obtain ⟨E', clk', hr, h5⟩ := run_mapUpdate (P := P) (v' := v') (k := k) (es' := (ps ++ [(k, v', ys)]).map pmE) hT hk h1 h2 (.inr ⟨pmE_ne hps, by rw [List.map_append]; rfl⟩)
    obtain ⟨H2, m2⟩ := turn_mp (clk' := clk') H1 h5
    refine ⟨σ.put b (.map E' clk'), ?_, ?_, m2⟩
    · simp [RunS, execOp, hx, hy, hz, hr, St.put]
    · have H3 := swap H2.tail
      have H4 := H3.bigSnoc
      have H5 : Hp S0 σ0 (σ.put b (.map E' clk')) (Ch.mp lo b ((ps ++ [(k, v', ys)]).map pmE) :: Ch.big (ps.map (pmC lo el) ++ [Ch.own lo el v' ys]) :: R) := by
        refine ⟨H2.md, ⟨H2.all.1, H4.all⟩, ⟨fun i hi hc => ?_, H4.ap⟩, fun i hi => ?_⟩
        · refine H2.ap.1 i hi ?_
          rcases hc with hc | hc
          · rcases cov_append.1 hc with hc | hc | hc
            · exact .inl hc
            · exact .inr (.inl hc)
            · exact hc.elim
          · exact .inr (.inr hc)
        · rcases hi with hi | hi
          · exact H2.org i (.inl hi)
          · exact H4.org i hi
      have H6 := H5.bigCons
      rw [List.map_append (f := pmC lo el)]
      exact H6

/-! ## A map whose values are published -/
def Ch.mr (b : Nat) (m : List (Int × List α)) : Ch where
  dup := false
  fp i := i = b
  as σ := ∃ ps : List (Pm α), m = ps.map pmM ∧ (Ch.mp 0 b (ps.map pmE)).as σ ∧ ∀ p ∈ ps, RS 0 σ p.2.1 p.2.2
  hdup h := by cases h
  hlt h i e := by obtain ⟨ps, _, h1, _⟩ := h; exact (Ch.mp 0 b _).hlt h1 i e
  hst m hd h := by
    obtain ⟨ps, h0, h1, h2⟩ := h
    exact ⟨ps, h0, (Ch.mp 0 b _).hst m hd h1, fun p hp => (h2 p hp).ext m.ext⟩
theorem pub_map {lo el : Nat} : ∀ (ps : List (Pm α)) (σ : St), allAs σ (ps.map (pmC lo el)) → apart (ps.map (pmC lo el)) →
    ∃ σ', Pb (cov (ps.map (pmC lo el))) σ σ' ∧ ∀ p ∈ ps, RS 0 σ' p.2.1 p.2.2
  | [], σ, _, _ => ⟨σ, ⟨rfl, rfl, fun _ _ => rfl, fun _ => Nat.le_refl _⟩, by simp⟩
  | p :: ps, σ, ⟨h1, h2⟩, ⟨h3, h4⟩ => by
    obtain ⟨σ1, p1, hR⟩ := Ow.pb (h1 : Ow σ lo el p.2.1 p.2.2)
    obtain ⟨σ2, p2, h5⟩ := pub_map ps σ1 (allAs_md h2 p1.md (fun b hb hb' => h3 b hb' hb)) h4
    refine ⟨σ2, (p1.trans p2).mono (fun b hb => hb), ?_⟩
    intro q hq
    rcases List.mem_cons.1 hq with rfl | hq
    · exact hR.ext p2.md.ext
    · exact h5 q hq
theorem Hp.mpPub (H : Hp S0 σ0 σ L) (i : Nat) (h : pick L i = some (Ch.big K, R)) (hK : Mp lo el b m K) : ∃ σ' : St, σ'.w = σ.w ∧ Hp S0 σ0 σ' (Ch.mr b m :: R) ∧ Md (cov K) σ σ' := by
  have H1 := H.front h
  obtain ⟨ps, rfl, rfl⟩ := hK.ex
  obtain ⟨⟨h1, h2⟩, ⟨h3, h4⟩⟩ := H1.head
  obtain ⟨σ', pb, hR⟩ := pub_map ps σ h2 h4
  have h1' : (Ch.mp lo b (ps.map pmE)).as σ' := (Ch.mp lo b _).hst pb.md (fun i hi hc => h3 i hi hc) h1
  have mK : Md (cov (Ch.mp lo b (ps.map pmE) :: ps.map (pmC lo el))) σ σ' := pb.md.mono fun i hi => .inr hi
  refine ⟨σ', pb.w, Hp.frame1 (A' := [Ch.mr b (ps.map pmM)]) H1 (Hp.one (mK.mono fun i hi => .inl hi) ⟨ps, rfl, ⟨h1'.1, h1'.2.1, Nat.zero_le _⟩, hR⟩ (fun i hi _ => .inl (.inl hi))), mK⟩
theorem Hp.mr (H : Hp S0 σ0 σ L) (i : Nat) (h : nth L i = some (Ch.mr b m)) : (Ch.mr b m).as σ := H.get h
theorem mrGet (h : (Ch.mr b m).as σ) (k : Int) : ∃ v, LkH σ.w.heap b k v ∧ RS 0 σ v (mget m k) := by
  obtain ⟨ps, rfl, ⟨⟨E, clk, h1, h2⟩, _⟩, h3⟩ := h
  rcases key_split k ps with ⟨A, v, xs, B, rfl, hA⟩ | hn
  · refine ⟨v, ⟨E, clk, _, h1, h2, .inl ⟨0 + (A.map pmE).length, ?_⟩⟩, ?_⟩
    · rw [List.map_append, List.map_cons]; exact vfind_some (pmE_ne hA)
    · rw [mget_some hA]; exact h3 (k, v, xs) (by simp)
  · refine ⟨.slice none 0 0, ⟨E, clk, _, h1, h2, .inr ⟨vfind_none (pmE_ne hn), rfl⟩⟩, ?_⟩
    rw [mget_none hn]; exact RS.nil
end
end Go.Vs

namespace Go.Vs
open Go

section
variable {α β : Type} [Rp α] [Rp β] [Dl α β] {S0 : BS} {σ0 σ σ' : St} {L K R : List Ch} {lo i : Nat} {v u : Value} {xs : List α} {a : Int} {e : α}

omit [Rp α] [Rp β] [Dl α β] in
theorem gidx_of_map {γ : Type} (f : γ → α) {ps : List γ} {a : Int} {p : γ} (h : gidx ps a = some p) : gidx (ps.map f) a = some (f p) := by
  unfold gidx at *
  split at h
  · rename_i h0
    rw [if_pos h0, List.getElem?_map, h]; rfl
  · cases h
/-- .. of which the memory of one element, e at a with the slice u, has been taken out. -/
structure DpH (lo : Nat) (v : Value) (xs : List α) (a : Int) (e : α) (u : Value) (K : List Ch) : Prop where
  ex : ∃ A B : List (α × Value), xs = (A ++ (e, u) :: B).map (·.1) ∧ a = (A.length : Int) ∧ K = Ch.own lo lo v ((A ++ (e, u) :: B).map dsh) :: (A ++ B).map (dow lo)
theorem DpH.at {b o : Nat} (hK : DpH lo v xs a e u K) (H : Hp S0 σ0 σ L) (i : Nat) (hn : nth L i = some (Ch.big K)) (hi : Ix v a (Rp.sz α) b o) : At lo σ b o (Dl.sh e u) := by
  have hb : allAs σ K ∧ apart K := H.get hn
  obtain ⟨A, B, rfl, rfl, rfl⟩ := hK.ex
  have hO : Ow σ lo lo v ((A ++ (e, u) :: B).map dsh) := hb.1.1
  have hg : gidx ((A ++ (e, u) :: B).map (dsh (α := α) (β := β))) (A.length : Int) = some (Dl.sh e u) := by
    refine gidx_of_map dsh (p := (e, u)) ?_
    unfold gidx
    rw [if_pos (by omega)]
    simp
  rw [Dl.sz (α := α) (β := β)] at hi
  exact hO.at hg hi
theorem At.val {b o : Nat} {u : Value} (h : At lo σ b o u) : HCell σ.w.heap b o = some u := by
  obtain ⟨cs, ⟨rfl, _⟩, h2⟩ := h
  rw [HCell_eq]; exact h2 0 (by simp)
end

section
variable {α β : Type} [Rp α] [Rp β] [Dl α β] {S0 : BS} {σ0 σ σ' : St} {L K R : List Ch} {lo i : Nat} {v u u' w : Value} {xs : List α} {a : Int} {e : α}
/-- What is stored into the element whose memory is out; its memory comes in. -/
theorem DpH.put (hK : DpH lo v xs a e u K) (e' : α) (u' : Value) : ∃ K2, Dp lo v (xs.set a.toNat e') K2 ∧ ∀ {P : Program} {n : Nat} {ρ : Nat → Value} {dst : Option Nat} {ty T : TypeId} {z : Value} {s bt : Nat} {pos : String} {af : Array Edge} {gd : Option (Nat × Bool)} {x y : Operand} {w : Value} {bl o o' k : Nat} {vs : List Value} {S0 : BS} {σ0 σ : St} {R : List Ch},
    Hp S0 σ0 σ (Ch.big K :: Ch.own lo lo u' (Dl.inn e') :: R) → TI P T z s bt → Ix v a (Rp.sz α) bl o → ev n ρ x = pt bl o' → o' = o + k → ev n ρ y = w → w.cells = vs.toArray → vs.length = s → k + vs.length ≤ Rp.sz α → (∀ t ∈ vs, plain t = true) →
    (∀ {σ : St} cs, Rp.rp lo σ cs (Dl.sh e u) → Rp.rp lo σ (wrL cs k vs) (Dl.sh e' u')) →
    ExS P σ n ρ ⟨dst, .store T x y, ty, pos, af, gd⟩ fun σ' => Hp S0 σ0 σ' (Ch.big K2 :: R) ∧ Md (fun b => blk v = some b) σ σ' := by
  obtain ⟨A, B, rfl, rfl, rfl⟩ := hK.ex
  have hset : ((A ++ (e, u) :: B).map (dsh (α := α) (β := β))).set (A.length : Int).toNat (Dl.sh e' u') = (A ++ (e', u') :: B).map dsh := by
    rw [Int.toNat_natCast, List.map_append, List.set_append_right _ _ (by simp), List.length_map, Nat.sub_self, List.map_cons, List.set_cons_zero, List.map_append]; rfl
  refine ⟨_, ⟨⟨A ++ (e', u') :: B, ?_, rfl⟩⟩, ?_⟩
  · rw [Int.toNat_natCast, List.map_append, List.set_append_right _ _ (by simp), List.length_map, Nat.sub_self, List.map_cons, List.set_cons_zero, List.map_append]; rfl
  intro P n ρ dst ty T z s bt pos af gd x y w bl o o' k vs S0 σ0 σ R H hT hi hx ho hy hw hs hk hp hrp
  have H1 := H.unbig
  have hg : gidx ((A ++ (e, u) :: B).map (dsh (α := α) (β := β))) (A.length : Int) = some (Dl.sh e u) := by
    refine gidx_of_map dsh (p := (e, u)) ?_
    unfold gidx
    rw [if_pos (by omega)]
    simp
  rw [Dl.sz (α := α) (β := β)] at hi hk
  obtain ⟨σ', h1, H2, m⟩ := ex_store_own (P := P) (dst := dst) (ty := ty) (pos := pos) (af := af) (gd := gd) (e' := Dl.sh e' u') H1 (i := 0) rfl hT hg hi hx ho hy hw hs hk hp (hrp (σ := σ))
  refine ⟨σ', h1, ?_, m⟩
  rw [hset] at H2
  have H3 := H2.tail
  rw [List.map_append (f := dow lo)] at H3
  have H4 := Hp.bigPut (A := A.map (dow lo)) (c := Ch.own lo lo u' (Dl.inn e')) (B := B.map (dow lo)) (H3.front (i := 1) rfl)
  have H5 : Hp S0 σ0 σ' (Ch.own lo lo v ((A ++ (e', u') :: B).map dsh) :: Ch.big (A.map (dow lo) ++ Ch.own lo lo u' (Dl.inn e') :: B.map (dow lo)) :: R) := by
    refine ⟨H2.md, ⟨H2.all.1, H4.all⟩, ⟨fun j hj hc => ?_, H4.ap⟩, fun j hj => ?_⟩
    · refine H2.ap.1 j hj ?_
      rcases hc with hc | hc
      · rcases cov_append.1 hc with hc | hc | hc
        · refine .inl ?_; rw [List.map_append]; exact cov_append.2 (.inl hc)
        · exact .inr (.inl hc)
        · refine .inl ?_; rw [List.map_append]; exact cov_append.2 (.inr hc)
      · exact .inr (.inr hc)
    · rcases hj with hj | hj
      · exact H2.org j (.inl hj)
      · exact H4.org j hj
  have H6 := H5.bigCons
  rw [List.map_append (f := dow lo), List.map_cons (f := dow lo)]
  exact H6
end

section
variable {α β : Type} [Rp α] [Rp β] [Dl α β] {S0 : BS} {σ0 σ σ' : St} {L K R : List Ch} {lo i m : Nat} {v : Value} {xs : List α}
theorem Hp.dpPub (H : Hp S0 σ0 σ L) (i : Nat) (h : pick L i = some (Ch.big K, R)) (hK : Dp lo v xs K) : ∃ σ' : St, σ'.w = σ.w ∧ Hp S0 σ0 σ' (Ch.ro 0 v xs :: R) ∧ Md (cov K) σ σ' := by
  have H1 := H.front h
  obtain ⟨σ', pb, hR⟩ := hK.lends σ H1.head.1 H1.head.2
  exact ⟨σ', pb.w, Hp.frame1 (A' := [Ch.ro 0 v xs]) H1 (Hp.one (pb.md.mono fun b hb => .inl hb) hR (fun b hb => hb.elim)), pb.md⟩
theorem Hp.nilDp (H : Hp S0 σ0 σ R) (α : Type) {β : Type} [Rp α] [Rp β] [Dl α β] (lo : Nat) : ∃ K, Dp lo (.slice none 0 0) ([] : List α) K ∧ Hp S0 σ0 σ (Ch.big K :: R) :=
  ⟨_, ⟨⟨[], rfl, rfl⟩⟩, ((H.bigNil.add (d := Ch.own lo lo (.slice none 0 0) ([] : List β)) Ow.nil (fun b hb => by cases hb))).bigCons⟩
theorem allAb_mem : ∀ {K : List Ch}, (∀ c ∈ K, Ab m c) → AllAb m K
  | [], _ => trivial
  | c :: l, h => ⟨h c (by simp), allAb_mem fun d hd => h d (by simp [hd])⟩
theorem Ab.big {K : List Ch} (h : AllAb m K) : Ab m (Ch.big K) := fun _ _ hw hv ha => ⟨allAb_as hw h hv ha.1, ha.2⟩
end

section
variable {α β : Type} [Rp α] [Rp β] [Dl α β] {S0 : BS} {σ0 σ σ' : St} {L K R : List Ch} {lo lo' i m : Nat} {v : Value} {xs : List α}
theorem cov_dow (ps : List (α × Value)) (b : Nat) : cov (ps.map (dow lo')) b ↔ cov (ps.map (dow lo)) b := by
  induction ps with
  | nil => exact Iff.rfl
  | cons p ps ih => exact or_congr Iff.rfl ih
theorem apart_dow {ps : List (α × Value)} (h : apart (ps.map (dow lo))) : apart (ps.map (dow lo')) := by
  induction ps with
  | nil => trivial
  | cons p ps ih => exact ⟨fun b hb hc => h.1 b hb ((cov_dow ps b).1 hc), ih h.2⟩
theorem all_dow (hl : lo' ≤ lo) {ps : List (α × Value)} (h : allAs σ (ps.map (dow lo))) : allAs σ (ps.map (dow lo')) := by
  induction ps with
  | nil => trivial
  | cons p ps ih => exact ⟨((h.1 : Ow σ lo lo p.2 (Dl.inn p.1)).lo hl).sc, ih h.2⟩
/-- The bounds of such a slice are lowered. -/
theorem Hp.dpLow (H : Hp S0 σ0 σ L) (i : Nat) (h : pick L i = some (Ch.big K, R)) (hK : Dp lo v xs K) (hl : lo' ≤ lo) : ∃ K', Dp lo' v xs K' ∧ Hp S0 σ0 σ (Ch.big K' :: R) := by
  have H1 := H.front h
  obtain ⟨ps, rfl, rfl⟩ := hK.ex
  refine ⟨_, ⟨⟨ps, rfl, rfl⟩⟩, H1.turn (d := Ch.big (Ch.own lo' lo' v (ps.map dsh) :: ps.map (dow lo'))) ?_ ?_⟩
  · rintro ⟨⟨h1, h2⟩, h3, h4⟩
    exact ⟨⟨((h1 : Ow σ lo lo v (ps.map dsh)).lo hl).low' hl, all_dow hl h2⟩, fun b hb hc => h3 b hb ((cov_dow ps b).1 hc), apart_dow h4⟩
  · intro b hb
    exact hb.imp id (cov_dow ps b).1
theorem Dp.abSc [Sc β] (hK : Dp lo v xs K) : Ab m (Ch.big K) := by
  obtain ⟨ps, rfl, rfl⟩ := hK.ex
  refine Ab.big ⟨Ab.ownSc, allAb_mem fun c hc => ?_⟩
  obtain ⟨p, _, rfl⟩ := List.mem_map.1 hc
  exact Ab.ownSc
end

section
variable {α : Type} [Rp α] [Sc α] {S0 : BS} {σ0 σ : St} {L R : List Ch} {lo el : Nat} {v : Value} {xs : List α}
end
end Go.Vs

namespace Go.Vs

end Go.Vs

namespace Go.Vs
end Go.Vs

namespace Go.Vs
end Go.Vs

namespace Go.Vs
def If2 (A B : Type) : Type := Int × A × B
@[reducible] def If2.mk {A B : Type} (k : Int) (a : A) (b : B) : If2 A B := (k, a, b)
end Go.Vs

namespace Go.Vs
open Go

section
variable {α β : Type} [Rp α] [Rp β] [Dl α β] {P : Program} {n : Nat} {ρ : Nat → Value} {S0 : BS} {σ0 σ : St} {R : List Ch} {K : List Ch} {lo : Nat} {v u w z : Value} {xs r : List α} {e : α}
  {dst : Option Nat} {ty T T' E E' : TypeId} {pos : String} {af : Array Edge} {gd : Option (Nat × Bool)} {x y : Operand} {s bt : Nat}
theorem ex_dpApp (H : Hp S0 σ0 σ (Ch.big K :: Ch.own lo lo u (Dl.inn e) :: R)) (hK : Dp lo v xs K) (hT : P.underlying T = some (.slice E)) (hT' : P.underlying T' = some (.slice E')) (hi : TI P E z s bt) (hs : s = Rp.sz α) (hzs : z.cells.size = s) (hbt : bt ≤ 1024)
    (hS : Rd lo σ w [Dl.sh (α := α) (β := β) e u]) (hr : gapp xs [e] = some r) (hlo : lo ≤ σ0.size) (hx : ev n ρ x = v) (hy : ev n ρ y = w) :
    Ex P σ n ρ ⟨dst, .call ⟨.builtin .append, #[x, y], #[T, T']⟩, ty, pos, af, gd⟩ fun v' σ' => ∃ a' c' K', v' = Sl a' r c' ∧ Dp lo (Sl a' r c') r K' ∧ Hp S0 σ0 σ' (Ch.big K' :: R) ∧ Md (fun b => blk v = some b) σ σ' := by
  obtain ⟨ps, rfl, rfl⟩ := hK.ex
  obtain ⟨hlen, rfl⟩ := gapp_some hr
  have hg : gapp (ps.map (dsh (α := α) (β := β))) [Dl.sh e u] = some ((ps ++ [(e, u)]).map dsh) := by
    unfold gapp
    rw [if_pos (by simp at hlen ⊢; omega), List.map_append]; rfl
  rw [Dl.sz (α := α) (β := β)] at hs
  obtain ⟨v', σ', h1, a', c', rfl, H2, m⟩ := ex_append (P := P) (α := β) (dst := dst) (ty := ty) (pos := pos) (af := af) (gd := gd) H.unbig (i := 0) rfl hT hT' hi hs hzs hbt hS hg hlo hx hy
  have hl : Sl a' ((ps ++ [(e, u)]).map (dsh (α := α) (β := β))) c' = Sl a' (ps.map (·.1) ++ [e]) c' := sl_len (by simp)
  rw [hl] at H2 h1
  have H3 := (H2.front (i := 2) rfl).front (i := 2) rfl
  have H4 := (H3.front (i := 1) rfl).bigSnoc
  have H5 := (H4.front (i := 1) rfl).bigCons
  refine ⟨_, σ', h1, a', c', _, rfl, ⟨ps ++ [(e, u)], by simp, ?_⟩, H5, m⟩
  rw [List.map_append (f := dow lo)]; rfl
end
end Go.Vs

namespace Go.Vs
open Go

section
variable {S0 : BS} {σ0 σ : St} {K L R : List Ch}
end
section
variable {α β : Type} [Rp α] [Rp β] [Dl α β] {S0 : BS} {σ0 σ : St} {R : List Ch} {lo lo' : Nat}
variable {P : Program} {f : FuncId} {args : List Value} {v0 : Value}
end

section
variable {α β : Type} [Rp α] [Rp β] [Dl α β] {lo lv li : Nat} {P : Program} {f : FuncId} {args : List Value} {v0 vv : Value}
end
end Go.Vs

namespace Go.Vs
open Go

instance : Dl (Int × Int × List Int × Int) (Int × Int × Value × Int) where
  sh x h := (x.1, x.2.1, h, x.2.2.2)
  inn x := x.2.2.1
  sz := rfl
  rp := by
    rintro _ _ _ _ _ _ ⟨_, _, rfl, h1, ⟨_, _, rfl, h2, ⟨_, _, rfl, ⟨rfl, _⟩, h3⟩⟩⟩ h
    exact ⟨_, _, rfl, h1, ⟨_, _, rfl, h2, ⟨_, _, rfl, ⟨_, rfl, h⟩, h3⟩⟩⟩
end Go.Vs

namespace Go.Vs
open Go

def ifs2 (k : Int) (a b : Value) : Value := bif k == 1 then a else bif k == 2 then b else .nilIface
theorem cf {c : Bool} {a b : Value} (h : c = false) : (bif c then a else b) = b := by rw [h]; rfl
section
variable {P : Program} {H : Array Obj} {n : Nat} {ρ : Nat → Value} {dst : Option Nat} {ty T T' T0 : TypeId} {pos : String} {af : Array Edge} {gd : Option (Nat × Bool)} {x y : Operand} {v : Value} {t : TypeId} {ms : Array (String × TypeId)} {D : TypeDesc}

end
end Go.Vs

namespace Go.Vs
open Go

theorem ifs2_plain {k : Int} {t1 t2 : TypeId} {a b : Value} : plain (ifs2 k (.iface t1 a) (.iface t2 b)) = true := by
  unfold ifs2; cases k == 1 <;> cases k == 2 <;> rfl
/-- What represents such a value: the number of the type, and both parts. -/
@[reducible] def rp2 (t1 t2 : TypeId) {A B : Type} [Rp A] [Rp B] : Rp (If2 A B) where
  sz := 1
  rp lo σ cs x := ∃ c1 c2, Rp.rp lo σ c1 x.2.1 ∧ Rp.rp lo σ c2 x.2.2 ∧ cs = [ifs2 x.1 (.iface t1 (.agg c1.toArray)) (.iface t2 (.agg c2.toArray))]
  pos := by decide
  len := by rintro _ _ _ _ ⟨c1, c2, _, _, rfl⟩; rfl
  extL := by rintro _ _ _ _ _ hE ⟨c1, c2, h1, h2, e⟩; exact ⟨c1, c2, Rp.extL hE h1, Rp.extL hE h2, e⟩
  low := by rintro _ _ _ _ _ hl ⟨c1, c2, h1, h2, e⟩; exact ⟨c1, c2, Rp.low hl h1, Rp.low hl h2, e⟩
  one := by
    rintro _ _ _ _ ⟨c1, c2, _, _, rfl⟩ c hc
    rw [List.mem_singleton] at hc
    rw [hc]; exact ifs2_plain
end Go.Vs

namespace Go.Vs
open Go

/-- A pointer to a record, or none. -/
inductive Po (α : Type) where
  | nil
  | to (x : α)
deriving DecidableEq
def Po.get {α : Type} : Po α → Option α
  | .nil => none
  | .to x => some x
def Po.isNil {α : Type} : Po α → Bool
  | .nil => true
  | .to _ => false
/-- A tree: a pointer and the two trees below. -/
inductive Vr (α : Type) where
  | nil
  | node (x : Po α) (l r : Vr α)
deriving DecidableEq
def Vr.get {α : Type} : Vr α → Option (Po α × Vr α × Vr α)
  | .nil => none
  | .node x l r => some (x, l, r)
def Vr.isNil {α : Type} : Vr α → Bool
  | .nil => true
  | .node .. => false
def Vr.mk {α : Type} (p : Po α × Vr α × Vr α) : Vr α := .node p.1 p.2.1 p.2.2
/-- One of two, by a number. -/
def bsel {β : Type} (e : Int) (x y : β) : β := if e = 0 then x else y
def gsel2 {β : Type} (e : Int) (x y : β) : Option β := if e = 0 then some x else if e = 1 then some y else none
theorem gsel2_some {β : Type} {e : Int} {x y z : β} (h : gsel2 e x y = some z) : (e = 0 ∨ e = 1) ∧ z = bsel e x y := by
  unfold gsel2 at h; unfold bsel
  split at h
  · next h0 => cases h; exact ⟨.inl h0, by rw [if_pos h0]⟩
  · next h0 =>
    split at h
    · next h1 => cases h; exact ⟨.inr h1, by rw [if_neg h0]⟩
    · cases h
/-- A type of pointers to what is published. -/
class Pv (τ : Type) (ρ : outParam Type) [Rp ρ] where
  pv : Nat → St → Value → τ → Prop
  get : τ → Option ρ
  mk' : ρ → τ
  nil : τ
  isNil : τ → Bool
  out : ∀ {lo : Nat} {σ : St} {v : Value} {t : τ}, pv lo σ v t → (v = .pointer none ∧ isNil t = true ∧ get t = none) ∨ ∃ b o p, v = pt b o ∧ isNil t = false ∧ get t = some p ∧ lo ≤ b ∧ o + Rp.sz ρ ≤ σ.vis b ∧ At lo σ b o p
  into : ∀ {lo : Nat} {σ : St} {b o : Nat} {p : ρ}, lo ≤ b → o + Rp.sz ρ ≤ σ.vis b → (∃ C T, σ.w.heap[b]? = some (.cells C T (0, 0))) → At lo σ b o p → pv lo σ (pt b o) (mk' p)
  none : ∀ {lo : Nat} {σ : St}, pv lo σ (.pointer none) nil
  extL : ∀ {lo : Nat} {σ σ' : St} {v : Value} {t : τ}, ExtL lo σ σ' → pv lo σ v t → pv lo σ' v t
  low : ∀ {lo lo' : Nat} {σ : St} {v : Value} {t : τ}, lo' ≤ lo → pv lo σ v t → pv lo' σ v t

section
variable {α : Type} [Rp α]
theorem At.extL {lo : Nat} {σ σ' : St} {b o : Nat} {x : α} (h : At lo σ b o x) (hb : lo ≤ b) (hs : o + Rp.sz α ≤ σ.vis b) (hE : ExtL lo σ σ') : At lo σ' b o x := by
  obtain ⟨cs, h1, h2⟩ := h
  refine ⟨cs, Rp.extL hE h1, fun j hj => ?_⟩
  have := Rp.len h1
  rw [hE.cell b (o + j) hb (by omega)]
  exact h2 j hj

def PP (lo : Nat) (σ : St) (v : Value) : Po α → Prop
  | .nil => v = .pointer none
  | .to x => ∃ b o, v = pt b o ∧ lo ≤ b ∧ o + Rp.sz α ≤ σ.vis b ∧ At lo σ b o x
instance : Pv (Po α) α where
  pv := PP
  get := Po.get
  mk' := .to
  nil := .nil
  isNil := Po.isNil
  out {_ _ _ t} h := by
    cases t with
    | nil => exact .inl ⟨h, rfl, rfl⟩
    | to x => obtain ⟨b, o, h1, h2, h3, h4⟩ := h; exact .inr ⟨b, o, x, h1, rfl, rfl, h2, h3, h4⟩
  into h1 h2 _ h3 := ⟨_, _, rfl, h1, h2, h3⟩
  none := rfl
  extL {_ _ _ _ t} hE h := by
    cases t with
    | nil => exact h
    | to x => obtain ⟨b, o, h1, h2, h3, h4⟩ := h; exact ⟨b, o, h1, h2, Nat.le_trans h3 (hE.vis b h2), h4.extL h2 h3 hE⟩
  low {_ _ _ _ t} hl h := by
    cases t with
    | nil => exact h
    | to x => obtain ⟨b, o, h1, h2, h3, h4⟩ := h; exact ⟨b, o, h1, Nat.le_trans hl h2, h3, h4.low hl⟩
end

section
variable {τ ρ : Type} [Rp ρ] [Pv τ ρ] {lo el : Nat} {σ σ' : St} {v : Value} {t : τ} {p : ρ} {b o : Nat}
/-- A published pointer. -/
def PV (lo : Nat) (σ : St) (v : Value) (t : τ) : Prop := Pv.pv lo σ v t
theorem PV.nil : PV lo σ (.pointer Option.none) (Pv.nil : τ) := Pv.none
theorem PV.plain (h : PV lo σ v t) : plain v = true := by
  rcases Pv.out h with ⟨h, _⟩ | ⟨b, o, p, h, _⟩ <;> rw [h] <;> rfl
theorem PV.extL (h : PV lo σ v t) (hE : ExtL lo σ σ') : PV lo σ' v t := Pv.extL hE h
theorem PV.low {lo' : Nat} (h : PV lo σ v t) (hl : lo' ≤ lo) : PV lo' σ v t := Pv.low hl h
theorem PV.at' (h : PV lo σ v t) (hp : Pv.get t = some p) : ∃ b o, v = pt b o ∧ lo ≤ b ∧ o + Rp.sz ρ ≤ σ.vis b ∧ At lo σ b o p := by
  rcases Pv.out h with ⟨_, _, h⟩ | ⟨b, o, q, h1, _, h3, h4⟩
  · rw [h] at hp; cases hp
  · rw [h3] at hp; cases hp; exact ⟨b, o, h1, h4⟩
theorem PV.ex (h : PV lo σ v t) (hp : Pv.get t = some p) : ∃ b o, v = pt b o := by
  obtain ⟨b, o, h, _⟩ := h.at' hp
  exact ⟨b, o, h⟩
theorem PV.at (h : PV lo σ v t) (hp : Pv.get t = some p) (hv : v = pt b o) : At lo σ b o p := by
  obtain ⟨b', o', h1, _, _, h2⟩ := h.at' hp
  rw [hv] at h1; cases h1; exact h2
theorem PV.hmd {S : BS} {u : Value} (h : PV lo σ v t) (hp : Pv.get t = some p) (hv : v = pt b o) {k : Nat} (hk : k < Rp.sz ρ)
    (hc : HCell σ.w.heap b (o + k) = some u) (m : Md S σ σ') : HCell σ'.w.heap b (o + k) = some u := by
  obtain ⟨b', o', h1, h2, h3, _⟩ := h.at' hp
  rw [hv] at h1; cases h1
  rw [HCell_eq] at hc ⊢
  exact (m.ext.cell b (o + k) (by omega)).trans hc
end

section
variable {α : Type} [Rp α] {lo el : Nat} {σ σ' : St} {v : Value}
instance : Rp (Po α) where
  sz := 1
  rp lo σ cs t := ∃ v, cs = [v] ∧ PV lo σ v t
  pos := by decide
  len := by rintro _ _ _ _ ⟨v, rfl, _⟩; rfl
  extL := by rintro _ _ _ _ _ hE ⟨v, rfl, h⟩; exact ⟨v, rfl, h.extL hE⟩
  low := by rintro _ _ _ _ _ hl ⟨v, rfl, h⟩; exact ⟨v, rfl, h.low hl⟩
  one := by
    rintro _ _ _ _ ⟨v, rfl, h⟩ c hc
    simp only [List.mem_singleton] at hc
    rw [hc]; exact h.plain
def RV (lo : Nat) (σ : St) : Value → Vr α → Prop
  | v, .nil => v = .pointer none
  | v, .node x l r => ∃ b o vx vl vr, v = pt b o ∧ lo ≤ b ∧ o + 3 ≤ σ.vis b ∧ (∃ C T, σ.w.heap[b]? = some (.cells C T (0, 0))) ∧ PV lo σ vx x ∧ RV lo σ vl l ∧ RV lo σ vr r ∧ ∀ j, (h : j < [vx, vl, vr].length) → σ.cell b (o + j) = some [vx, vl, vr][j]
theorem RV.plain {t : Vr α} (h : RV lo σ v t) : plain v = true := by
  cases t with
  | nil => rw [show v = .pointer none from h]; rfl
  | node x l r => obtain ⟨b, o, vx, vl, vr, rfl, _⟩ := h; rfl
theorem RV.extL (hE : ExtL lo σ σ') : ∀ {t : Vr α} {v : Value}, RV lo σ v t → RV lo σ' v t
  | .nil, _, h => h
  | .node x l r, _, ⟨b, o, vx, vl, vr, h1, h2, h3, h0, h4, h5, h6, h7⟩ => by
    refine ⟨b, o, vx, vl, vr, h1, h2, Nat.le_trans h3 (hE.vis b h2), by rw [hE.block b h2 (by omega)]; exact h0, h4.extL hE, RV.extL hE h5, RV.extL hE h6, fun j hj => ?_⟩
    have hl : [vx, vl, vr].length = 3 := rfl
    rw [hE.cell b _ h2 (by omega)]
    exact h7 j hj
theorem RV.low {lo' : Nat} (hl : lo' ≤ lo) : ∀ {t : Vr α} {v : Value}, RV lo σ v t → RV lo' σ v t
  | .nil, _, h => h
  | .node x l r, _, ⟨b, o, vx, vl, vr, h1, h2, h3, h0, h4, h5, h6, h7⟩ => ⟨b, o, vx, vl, vr, h1, Nat.le_trans hl h2, h3, h0, h4.low hl, RV.low hl h5, RV.low hl h6, h7⟩
instance : Rp (Vr α) where
  sz := 1
  rp lo σ cs t := ∃ v, cs = [v] ∧ RV lo σ v t
  pos := by decide
  len := by rintro _ _ _ _ ⟨v, rfl, _⟩; rfl
  extL := by rintro _ _ _ _ _ hE ⟨v, rfl, h⟩; exact ⟨v, rfl, h.extL hE⟩
  low := by rintro _ _ _ _ _ hl ⟨v, rfl, h⟩; exact ⟨v, rfl, h.low hl⟩
  one := by
    rintro _ _ _ _ ⟨v, rfl, h⟩ c hc
    simp only [List.mem_singleton] at hc
    rw [hc]; exact h.plain
instance : Pv (Vr α) (Po α × Vr α × Vr α) where
  pv := RV
  get := Vr.get
  mk' := Vr.mk
  nil := .nil
  isNil := Vr.isNil
  out {_ _ _ t} h := by
    cases t with
    | nil => exact .inl ⟨h, rfl, rfl⟩
    | node x l r =>
      obtain ⟨b, o, vx, vl, vr, h1, h2, h3, h0, h4, h5, h6, h7⟩ := h
      exact .inr ⟨b, o, (x, l, r), h1, rfl, rfl, h2, h3, [vx, vl, vr], ⟨[vx], [vl, vr], rfl, ⟨vx, rfl, h4⟩, [vl], [vr], rfl, ⟨vl, rfl, h5⟩, ⟨vr, rfl, h6⟩⟩, h7⟩
  into {_ _ _ _ p} h1 h2 h0 h3 := by
    obtain ⟨_, ⟨_, _, rfl, ⟨vx, rfl, h4⟩, _, _, rfl, ⟨vl, rfl, h5⟩, ⟨vr, rfl, h6⟩⟩, h7⟩ := h3
    exact ⟨_, _, vx, vl, vr, rfl, h1, h2, h0, h4, h5, h6, h7⟩
  none := rfl
  extL hE h := RV.extL hE h
  low hl h := RV.low hl h
theorem At.vr {b o : Nat} {t : Vr α} (h : At el σ b o t) : ∃ v, HCell σ.w.heap b o = some v ∧ PV el σ v t := by
  obtain ⟨cs, ⟨v, rfl, hR⟩, h2⟩ := h
  exact ⟨v, by rw [HCell_eq]; exact h2 0 (by simp), hR⟩
end

section
variable {τ ρ : Type} [Rp ρ] [Pv τ ρ] {S0 : BS} {σ0 σ : St} {L R : List Ch} {el lo b o i : Nat} {v : Value} {t t' x y z : τ} {cs pre suf : List Value} {e : Int}
/-- A published pointer. -/
def Ch.pv (el : Nat) (v : Value) (t : τ) : Ch where
  dup := true
  fp _ := False
  as σ := PV el σ v t
  hdup _ _ := id
  hlt _ _ h := h.elim
  hst m _ h := PV.extL h (m.ext.extL el)
theorem Hp.pv (H : Hp S0 σ0 σ L) (i : Nat) (h : nth L i = some (Ch.pv el v t)) : PV el σ v t := H.get h
theorem PV.bsel {a0 a1 : Option Addr} (h0 : PV el σ (.pointer a0) x) (h1 : PV el σ (.pointer a1) y) : PV el σ (.pointer (Go.Vs.bsel e a0 a1)) (Go.Vs.bsel e x y) := by
  unfold Go.Vs.bsel; split
  · exact h0
  · exact h1
theorem PV.sel {a0 a1 : Option Addr} (h0 : PV el σ (.pointer a0) x) (h1 : PV el σ (.pointer a1) y) (hx : gsel2 e x y = some z) : PV el σ (.pointer (Go.Vs.bsel e a0 a1)) z := by
  rw [(gsel2_some hx).2]; exact h0.bsel h1
end

section
variable {τ ρ : Type} [Rp ρ] [Pv τ ρ] {P : Program} {H : Array Obj} {n lo : Nat} {ρ' : Nat → Value} {d : Option Nat} {ty T T' : TypeId} {pos : String} {af : Array Edge} {gd : Option (Nat × Bool)} {x y : Operand} {v : Value} {t : τ} {σ : St}
end

/-! ## Two pointers that are compared -/
/-- Types whose values are known by their cells. -/
class Rf (α : Type) [Rp α] : Prop where
  fn : ∀ {lo lo' : Nat} {σ : St} {cs : List Value} {x y : α}, Rp.rp lo σ cs x → Rp.rp lo' σ cs y → x = y
instance : Rf Int := ⟨fun {_ _ _ _ _ _} h k => by have h : _ = [I _] := h; have k : _ = [I _] := k; rw [h] at k; cases k; rfl⟩
section
variable {α β : Type} [Rp α] [Rp β]
theorem At.fn [Rf α] {lo lo' : Nat} {σ : St} {b o : Nat} {x y : α} (h : At lo σ b o x) (k : At lo' σ b o y) : x = y := by
  obtain ⟨cs, h1, h2⟩ := h
  obtain ⟨cs', k1, k2⟩ := k
  have e : cs = cs' := by
    refine List.ext_getElem ((Rp.len h1).trans (Rp.len k1).symm) fun j hj hj' => ?_
    exact Option.some.inj ((h2 j hj).symm.trans (k2 j hj'))
  subst e
  exact Rf.fn h1 k1
instance [Rf α] [Rf β] : Rf (α × β) := ⟨fun {_ _ _ _ x y} h k => by
  obtain ⟨c1, c2, e, h1, h2⟩ := h
  obtain ⟨d1, d2, e', k1, k2⟩ := k
  obtain ⟨r1, r2⟩ := List.append_inj (e.symm.trans e') ((Rp.len h1).trans (Rp.len k1).symm)
  subst r1 r2
  exact Prod.ext (Rf.fn h1 k1) (Rf.fn h2 k2)⟩
theorem RS.fn [Rf α] {el el' : Nat} {σ : St} {v : Value} {xs ys : List α} (h : RS el σ v xs) (k : RS el' σ v ys) : xs = ys := by
  rcases h with ⟨⟨ad, c, rfl⟩, rfl⟩ | ⟨b, o, c, rfl, _, _, _, h⟩
  · rcases k with ⟨_, rfl⟩ | ⟨b', o', c', e, _⟩
    · rfl
    · injection e with _ e2 _
      exact (List.eq_nil_of_length_eq_zero e2.symm).symm
  · rcases k with ⟨⟨ad, c', e⟩, rfl⟩ | ⟨b', o', c', e, _, _, _, k⟩
    · injection e with _ e2 _
      exact List.eq_nil_of_length_eq_zero e2
    · injection e with e1 e2 _
      injection e1 with e1
      injection e1 with e3 e4 _
      subst e3 e4
      exact List.ext_getElem e2 fun i hi hi' => (h i hi).fn (k i hi')
instance [Rf α] : Rf (List α) := ⟨fun {_ _ _ _ x y} h k => by
  obtain ⟨v, rfl, h⟩ := h
  obtain ⟨v', e, k⟩ := k
  injection e with e
  subst e
  exact RS.fn h k⟩
theorem PV.fnPo [Rf α] {lo lo' : Nat} {σ : St} {v : Value} {x y : Po α} (h : PV lo σ v x) (k : PV lo' σ v y) : x = y := by
  cases x with
  | nil =>
    have h : v = .pointer none := h
    cases y with
    | nil => rfl
    | to y => obtain ⟨b, o, e, _⟩ := (k : PP lo' σ v (.to y)); rw [h] at e; cases e
  | to x =>
    obtain ⟨b, o, e, _, _, h⟩ := (h : PP lo σ v (.to x))
    cases y with
    | nil => have k : v = .pointer none := k; rw [k] at e; cases e
    | to y =>
      obtain ⟨b', o', e', _, _, k⟩ := (k : PP lo' σ v (.to y))
      rw [e] at e'; cases e'
      rw [h.fn k]
theorem RV.fn [Rf α] {lo lo' : Nat} {σ : St} : ∀ {v : Value} {x y : Vr α}, RV lo σ v x → RV lo' σ v y → x = y
  | v, .nil, y, h, k => by
    have h : v = .pointer none := h
    cases y with
    | nil => rfl
    | node y l r => obtain ⟨b, o, vx, vl, vr, e, _⟩ := k; rw [h] at e; cases e
  | v, .node x l r, y, h, k => by
    obtain ⟨b, o, vx, vl, vr, e, _, _, _, h1, h2, h3, h4⟩ := h
    cases y with
    | nil => have k : v = .pointer none := k; rw [k] at e; cases e
    | node y l' r' =>
      obtain ⟨b', o', wx, wl, wr, e', _, _, _, k1, k2, k3, k4⟩ := k
      rw [e] at e'; cases e'
      have q : ∀ j, (hj : j < 3) → [vx, vl, vr][j]'hj = [wx, wl, wr][j]'hj := fun j hj => Option.some.inj ((h4 j hj).symm.trans (k4 j hj))
      obtain rfl : vx = wx := q 0 (by omega)
      obtain rfl : vl = wl := q 1 (by omega)
      obtain rfl : vr = wr := q 2 (by omega)
      rw [h1.fnPo k1, RV.fn h2 k2, RV.fn h3 k3]
/-- Whether two pointers are the same. -/
def peq (a b : Option Addr) : Bool := decide (a = b)
theorem PV.same [Rf α] {lo lo' : Nat} {σ : St} {a b : Option Addr} {x y : Vr α} (hb : peq a b = true) (h : PV lo σ (.pointer a) x) (k : PV lo' σ (.pointer b) y) : x = y := by
  obtain rfl : a = b := of_decide_eq_true hb
  exact RV.fn h k
section
variable {P : Program} {n lo lo' : Nat} {ρ' : Nat → Value} {d : Option Nat} {ty T T' E : TypeId} {pos : String} {af : Array Edge} {gd : Option (Nat × Bool)} {x y : Operand} {t t' : Vr α} {σ : St} {a a' : Option Addr} {z : Value} {s bt : Nat}
theorem RV.spot {p : Addr} (h : RV lo σ (.pointer (some p)) t) : p = ⟨p.block, p.off, none⟩ := by
  cases t with
  | nil => have h : Value.pointer (some p) = .pointer none := h; cases h
  | node => obtain ⟨b', o', vx, vl, vr, e, _⟩ := h; injection e with e; injection e with e; rw [e]
end
end
end Go.Vs

namespace Go.Vs
open Go

section
variable {α : Type} [Rp α]
end
section
variable {P : Program} {H : Array Obj} {n : Nat} {ρ : Nat → Value} {d : Option Nat} {ty T E : TypeId} {pos : String} {af : Array Edge} {gd : Option (Nat × Bool)} {x y : Operand} {a : Int} {m bt : Nat} {z v : Value} {vs : List Value}
end
end Go.Vs
