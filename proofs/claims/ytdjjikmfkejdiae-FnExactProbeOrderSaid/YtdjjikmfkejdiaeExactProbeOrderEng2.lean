/- What a function of the program does to its memory, step by step. -/
import Derived.Test.YtdjjikmfkejdiaeExactProbeOrderEng1
set_option linter.unusedVariables false
set_option linter.unusedSimpArgs false
namespace Go.Vs
open Go

instance : Rp Value where
  sz := 1
  rp _ _ cs x := cs = [x] ∧ plain x = true
  pos := by decide
  len := by rintro _ _ _ _ ⟨rfl, _⟩; rfl
  extL := fun _ h => h
  low := fun _ h => h
  one := by rintro _ _ _ _ ⟨rfl, h⟩; simpa using h
instance : Sc Value := ⟨fun h => h⟩

section
variable {S0 : BS} {σ0 σ : St} {L K R : List Ch} {c : Ch}
theorem Hp.bigNil (H : Hp S0 σ0 σ R) : Hp S0 σ0 σ (Ch.big [] :: R) := H.add (d := Ch.big []) ⟨trivial, trivial⟩ (fun _ h => h)
theorem Hp.bigCons (H : Hp S0 σ0 σ (c :: Ch.big K :: R)) : Hp S0 σ0 σ (Ch.big (c :: K) :: R) :=
  ⟨H.md, ⟨⟨⟨H.all.1, H.all.2.1.1⟩, ⟨fun b hb h => H.ap.1 b hb (.inl h), H.all.2.1.2⟩⟩, H.all.2.2⟩,
    ⟨fun b hb h => hb.elim (fun hb => H.ap.1 b hb (.inr h)) (fun hb => H.ap.2.1 b hb h), H.ap.2.2⟩,
    fun b hb => H.org b (hb.elim (fun hb => hb.elim .inl (fun hb => .inr (.inl hb))) (fun hb => .inr (.inr hb)))⟩
theorem Hp.bigSnoc (H : Hp S0 σ0 σ (c :: Ch.big K :: R)) : Hp S0 σ0 σ (Ch.big (K ++ [c]) :: R) :=
  ⟨H.md, ⟨⟨allAs_append.2 ⟨H.all.2.1.1, H.all.1, trivial⟩, apart_append.2 ⟨H.all.2.1.2, ⟨fun _ _ h => h, trivial⟩, fun b hb h => h.elim (fun h => H.ap.1 b h (.inl hb)) id⟩⟩, H.all.2.2⟩,
    ⟨fun b hb h => (cov_append.1 hb).elim (fun hb => H.ap.2.1 b hb h) (fun hb => hb.elim (fun hb => H.ap.1 b hb (.inr h)) id), H.ap.2.2⟩,
    fun b hb => H.org b (hb.elim (fun hb => (cov_append.1 hb).elim (fun hb => .inr (.inl hb)) (fun hb => hb.elim .inl (fun h => h.elim))) (fun hb => .inr (.inr hb)))⟩
theorem Hp.unbig (H : Hp S0 σ0 σ (Ch.big (c :: K) :: R)) : Hp S0 σ0 σ (c :: Ch.big K :: R) :=
  ⟨H.md, ⟨H.all.1.1.1, ⟨H.all.1.1.2, H.all.1.2.2⟩, H.all.2⟩,
    ⟨fun b hb h => h.elim (H.all.1.2.1 b hb) (H.ap.1 b (.inl hb)), ⟨fun b hb h => H.ap.1 b (.inr hb) h, H.ap.2⟩⟩,
    fun b hb => H.org b (hb.elim (fun hb => .inl (.inl hb)) (fun hb => hb.elim (fun hb => .inl (.inr hb)) .inr))⟩
end

/-- Data with one list in it: how they lie in memory, with the slice's value in the list's place. -/
class Dl (α : Type) (β : outParam Type) [Rp α] [Rp β] where
  sh : α → Value → β
  inn : α → List Int
  sz : Rp.sz α = Rp.sz β
  rp : ∀ {lo lo' : Nat} {σ : St} {cs : List Value} {x : α} {h : Value}, Rp.rp lo σ cs (sh x h) → RS lo' σ h (inn x) → Rp.rp lo' σ cs x
instance : Dl (List Int) Value where
  sh _ h := h
  inn x := x
  sz := rfl
  rp := by rintro _ _ _ _ _ _ ⟨rfl, _⟩ h; exact ⟨_, rfl, h⟩
instance : Dl (Int × List Int × Int) (Int × Value × Int) where
  sh x h := (x.1, h, x.2.2)
  inn x := x.2.1
  sz := rfl
  rp := by
    rintro _ _ _ _ _ _ ⟨_, _, rfl, h1, ⟨_, _, rfl, ⟨rfl, _⟩, h3⟩⟩ h
    exact ⟨_, _, rfl, h1, ⟨_, _, rfl, ⟨_, rfl, h⟩, h3⟩⟩

section
variable {α β : Type} [Rp α] [Rp β] [Dl α β]
def dsh (p : α × Value) : β := Dl.sh p.1 p.2
def dow (lo : Nat) (p : α × Value) : Ch := Ch.own lo lo p.2 (Dl.inn p.1)

/-- The chunks of such a slice. -/
structure Dp (lo : Nat) (v : Value) (xs : List α) (K : List Ch) : Prop where
  ex : ∃ ps : List (α × Value), xs = ps.map (·.1) ∧ K = Ch.own lo lo v (ps.map dsh) :: ps.map (dow lo)

theorem pub_inner {lo : Nat} : ∀ (ps : List (α × Value)) (σ : St), allAs σ (ps.map (dow lo)) → apart (ps.map (dow lo)) →
    ∃ σ', Pb (cov (ps.map (dow lo))) σ σ' ∧ ∀ p ∈ ps, RS 0 σ' p.2 (Dl.inn p.1)
  | [], σ, _, _ => ⟨σ, ⟨rfl, fun _ _ => rfl, fun _ => Nat.le_refl _⟩, by simp⟩
  | p :: ps, σ, ⟨h1, h2⟩, ⟨h3, h4⟩ => by
    obtain ⟨σ1, p1, hR⟩ := Ow.pb (h1 : Ow σ lo lo p.2 (Dl.inn p.1))
    obtain ⟨σ2, p2, h5⟩ := pub_inner ps σ1 (allAs_md h2 p1.md (fun b hb hb' => h3 b hb' hb)) h4
    refine ⟨σ2, (p1.trans p2).mono (fun b hb => hb), ?_⟩
    intro q hq
    rcases List.mem_cons.1 hq with rfl | hq
    · exact hR.ext p2.md.ext
    · exact h5 q hq

theorem Dp.lends {lo : Nat} {v : Value} {xs : List α} {K : List Ch} (h : Dp lo v xs K) : Lends K v xs := by
  obtain ⟨ps, rfl, rfl⟩ := h.ex
  rintro σ ⟨h1, h2⟩ ⟨h3, h4⟩
  obtain ⟨σ1, p1, hR⟩ := pub_inner ps σ h2 h4
  have h1' : Ow σ1 lo lo v (ps.map dsh) := (Ch.own lo lo v (ps.map dsh)).hst p1.md (fun b hb hb' => h3 b hb hb') h1
  have h5 : Ow σ1 lo 0 v (ps.map (·.1)) := by
    rcases h1' with ⟨rfl, hz⟩ | ⟨b, o, c, C, T, rfl, h2, h3, h4, h5, h6, h7⟩
    · have : ps = [] := by simpa using hz
      subst this; exact .inl ⟨rfl, rfl⟩
    · refine .inr ⟨b, o, c, C, T, by simp, h2, h3, by simpa using h4, by rw [Dl.sz (α := α) (β := β)]; exact h5, h6, fun i hi => ?_⟩
      have hi' : i < ps.length := by simpa using hi
      obtain ⟨cs, h8, h9⟩ := h7 i (by simpa using hi)
      refine ⟨cs, ?_, fun j hj => by rw [Dl.sz (α := α) (β := β)]; exact h9 j hj⟩
      simp only [List.getElem_map] at h8 ⊢
      exact Dl.rp h8 (hR _ (List.getElem_mem hi'))
  obtain ⟨σ2, p2, h6⟩ := Ow.pb h5
  exact ⟨σ2, (p1.trans p2).mono (fun b hb => hb.elim .inr .inl), h6⟩
end

/-! ## Filling -/
theorem set_step {β : Type} (A : List β) (z e : β) (m : Nat) : (A ++ List.replicate (m + 1) z).set A.length e = (A ++ [e]) ++ List.replicate m z := by
  rw [List.set_append_right _ _ (Nat.le_refl _), Nat.sub_self, List.replicate_succ, List.set_cons_zero]
  simp
theorem gidx_step {β : Type} (A : List β) (z : β) (m : Nat) (i : Int) (h : i = (A.length : Int)) : gidx (A ++ List.replicate (m + 1) z) i = some z := by
  subst h
  unfold gidx
  rw [if_pos (by omega)]
  simp [List.replicate_succ]
theorem gidx_drop {β : Type} {ys : List β} {i : Nat} {e : β} {r : List β} (h : ys.drop i = e :: r) : gidx ys (i : Int) = some e := by
  unfold gidx
  rw [if_pos (by omega)]
  have := congrArg (·[0]?) h
  simpa using this
theorem drop_next {β : Type} {ys : List β} {i : Nat} {e : β} {r : List β} (h : ys.drop i = e :: r) : ys.drop (i + 1) = r := by
  rw [← List.drop_drop, h]; rfl
end Go.Vs

namespace Go.Vs
open Go

/-! ## What maps hold -/
section
variable {α : Type}
def mput (m : List (Int × List α)) (k : Int) (xs : List α) : List (Int × List α) := match m with
  | [] => [(k, xs)]
  | p :: r => if p.1 = k then (k, xs) :: r else p :: mput r k xs
end
def vfind : List (Int × Value) → Int → Nat → Option (Nat × Value)
  | [], _, _ => none
  | p :: r, k, i => if k = p.1 then some (i, p.2) else vfind r k (i + 1)
/-- The entries of a map. -/
def EntsL (es : List (Int × Value)) (E : List MapEntry) : Prop := E.map (fun e => (e.key, e.val)) = es.map (fun p => (I p.1, p.2))
theorem findNow_ok (k : Int) : ∀ (E : List MapEntry) (es : List (Int × Value)) (i : Nat), EntsL es E → Instr.findNow (.int .i64) (I k) E i = some (vfind es k i)
  | [], [], _, _ => rfl
  | [], _ :: _, _, h => by simp [EntsL] at h
  | _ :: _, [], _, h => by simp [EntsL] at h
  | e :: E, p :: es, i, h => by
    simp only [EntsL, List.map_cons, List.cons.injEq, Prod.mk.injEq] at h
    obtain ⟨⟨h1, h2⟩, h3⟩ := h
    have hs : Instr.sameNow (.int .i64) (I k) (I p.1) = some (k == p.1) := rfl
    unfold Instr.findNow vfind
    rw [h1, hs]
    by_cases hk : k = p.1
    · subst hk; simp [h2]
    · have : (k == p.1) = false := by simpa using hk
      rw [this, if_neg hk]
      exact findNow_ok k E es (i + 1) h3
theorem vfind_none {es : List (Int × Value)} {k : Int} : ∀ {i : Nat}, (∀ p ∈ es, p.1 ≠ k) → vfind es k i = none := by
  induction es with
  | nil => intro _ _; rfl
  | cons p r ih =>
    intro i h
    unfold vfind
    rw [if_neg (fun e => h p (by simp) e.symm)]
    exact ih (fun q hq => h q (by simp [hq]))
theorem vfind_some {A B : List (Int × Value)} {k : Int} {v : Value} : ∀ {i : Nat}, (∀ p ∈ A, p.1 ≠ k) → vfind (A ++ (k, v) :: B) k i = some (i + A.length, v) := by
  induction A with
  | nil => intro i _; simp [vfind]
  | cons p r ih =>
    intro i h
    simp only [List.cons_append]
    unfold vfind
    rw [if_neg (fun e => h p (by simp) e.symm), ih (fun q hq => h q (by simp [hq]))]
    simp; omega

/-! ## Chunks -/
def Ch.mp (lo b : Nat) (es : List (Int × Value)) : Ch where
  dup := false
  fp i := i = b
  as σ := (∃ E clk, σ.w.heap[b]? = some (.map E clk) ∧ EntsL es E.toList) ∧ σ.vis b = 0 ∧ lo ≤ b
  hdup h := by cases h
  hlt h i e := by subst e; obtain ⟨⟨E, clk, h1, _⟩, _⟩ := h; exact lt_of_block h1
  hst m hd h := by
    obtain ⟨⟨E, clk, h1, h2⟩, h3, h4⟩ := h
    have hb := lt_of_block h1
    have hS := hd _ rfl
    exact ⟨⟨E, clk, (m.block _ hb hS).trans h1, h2⟩, (m.vis _ hb hS).trans h3, h4⟩

section
variable {α : Type} [Rp α]
abbrev Pm (α : Type) := Int × Value × List α
def pmE (p : Pm α) : Int × Value := (p.1, p.2.1)
def pmM (p : Pm α) : Int × List α := (p.1, p.2.2)
def pmC (lo el : Nat) (p : Pm α) : Ch := Ch.own lo el p.2.1 p.2.2
/-- The chunks of a map whose values are its own. -/
structure Mp (lo el b : Nat) (m : List (Int × List α)) (K : List Ch) : Prop where
  ex : ∃ ps : List (Pm α), m = ps.map pmM ∧ K = Ch.mp lo b (ps.map pmE) :: ps.map (pmC lo el)
/-- .. of which one value, v at k, has been taken out. -/
structure MpH (lo el b : Nat) (m : List (Int × List α)) (k : Int) (v : Value) (K : List Ch) : Prop where
  ex : (∃ (A : List (Pm α)) (xs : List α) (B : List (Pm α)), (∀ q ∈ A, q.1 ≠ k) ∧ m = (A ++ (k, v, xs) :: B).map pmM ∧ K = Ch.mp lo b ((A ++ (k, v, xs) :: B).map pmE) :: (A ++ B).map (pmC lo el)) ∨
    ∃ ps : List (Pm α), (∀ q ∈ ps, q.1 ≠ k) ∧ v = .slice none 0 0 ∧ m = ps.map pmM ∧ K = Ch.mp lo b (ps.map pmE) :: ps.map (pmC lo el)
theorem Mp.nil {lo el b : Nat} : Mp (α := α) lo el b [] [Ch.mp lo b []] := ⟨⟨[], rfl, rfl⟩⟩

omit [Rp α] in
theorem mput_some {A B : List (Pm α)} {k : Int} {v v' : Value} {xs ys : List α} (h : ∀ q ∈ A, q.1 ≠ k) : mput ((A ++ (k, v, xs) :: B).map pmM) k ys = (A ++ (k, v', ys) :: B).map pmM := by
  induction A with
  | nil => simp [mput, pmM]
  | cons p r ih =>
    simp only [List.cons_append, List.map_cons]
    unfold mput
    rw [if_neg (show (pmM p).1 ≠ k from h p (by simp)), ih (fun q hq => h q (by simp [hq]))]
omit [Rp α] in
theorem mput_none {ps : List (Pm α)} {k : Int} {v' : Value} {ys : List α} (h : ∀ q ∈ ps, q.1 ≠ k) : mput (ps.map pmM) k ys = (ps ++ [(k, v', ys)]).map pmM := by
  induction ps with
  | nil => rfl
  | cons p r ih =>
    simp only [List.cons_append, List.map_cons]
    unfold mput
    rw [if_neg (show (pmM p).1 ≠ k from h p (by simp)), ih (fun q hq => h q (by simp [hq]))]
end

section
variable {S0 : BS} {σ0 σ σ' : St} {L K R A B : List Ch} {c : Ch}
theorem Hp.bigPut (H : Hp S0 σ0 σ (c :: Ch.big (A ++ B) :: R)) : Hp S0 σ0 σ (Ch.big (A ++ c :: B) :: R) := by
  obtain ⟨⟨h0, ⟨h1, h2⟩, h3⟩, ⟨h4, h5, h6⟩⟩ := And.intro H.all H.ap
  obtain ⟨a1, a2⟩ := allAs_append.1 h1
  obtain ⟨p1, p2, p3⟩ := apart_append.1 h2
  refine ⟨H.md, ⟨⟨allAs_append.2 ⟨a1, h0, a2⟩, apart_append.2 ⟨p1, ⟨fun b hb h => h4 b hb (.inl (cov_append.2 (.inr h))), p2⟩, fun b hb h => ?_⟩⟩, h3⟩, ⟨fun b hb h => ?_, h6⟩, fun b hb => H.org b ?_⟩
  · rcases h with h | h
    · exact h4 b h (.inl (cov_append.2 (.inl hb)))
    · exact p3 b hb h
  · rcases cov_append.1 hb with hb | hb | hb
    · exact h5 b (cov_append.2 (.inl hb)) h
    · exact h4 b hb (.inr h)
    · exact h5 b (cov_append.2 (.inr hb)) h
  · rcases hb with hb | hb
    · rcases cov_append.1 hb with hb | hb | hb
      · exact .inr (.inl (cov_append.2 (.inl hb)))
      · exact .inl hb
      · exact .inr (.inl (cov_append.2 (.inr hb)))
    · exact .inr (.inr hb)
end

/-! ## Taking a value out -/
section
variable {α : Type} [Rp α] {S0 : BS} {σ0 σ σ' : St} {L K R : List Ch} {lo el b i : Nat} {m : List (Int × List α)} {k : Int} {v : Value}
/-- What a map has at a key. -/
def LkH (H : Array Obj) (b : Nat) (k : Int) (v : Value) : Prop := ∃ E clk es, H[b]? = some (.map E clk) ∧ EntsL es E.toList ∧ ((∃ i, vfind es k 0 = some (i, v)) ∨ (vfind es k 0 = none ∧ v = .slice none 0 0))
theorem LkH.md {S : BS} (h : LkH σ.w.heap b k v) (m : Md S σ σ') (hb : ¬ S b) : LkH σ'.w.heap b k v := by
  obtain ⟨E, clk, es, h1, h2⟩ := h
  exact ⟨E, clk, es, (m.block b (lt_of_block h1) hb).trans h1, h2⟩
omit [Rp α] in
theorem pmE_ne {ps : List (Pm α)} (h : ∀ q ∈ ps, q.1 ≠ k) : ∀ p ∈ ps.map pmE, p.1 ≠ k := by
  intro p hp
  obtain ⟨q, hq, rfl⟩ := List.mem_map.1 hp
  exact h q hq
theorem MpH.look (h : MpH lo el b m k v K) (H : Hp S0 σ0 σ L) (i : Nat) (hn : nth L i = some (Ch.big K)) : LkH σ.w.heap b k v := by
  have hb : allAs σ K ∧ apart K := H.get hn
  rcases h.ex with ⟨A, xs, B, hA, -, rfl⟩ | ⟨ps, hps, rfl, -, rfl⟩
  · obtain ⟨⟨E, clk, h1, h2⟩, _⟩ := hb.1.1
    refine ⟨E, clk, _, h1, h2, .inl ⟨0 + (A.map pmE).length, ?_⟩⟩
    rw [List.map_append, List.map_cons]
    exact vfind_some (pmE_ne hA)
  · obtain ⟨⟨E, clk, h1, h2⟩, _⟩ := hb.1.1
    exact ⟨E, clk, _, h1, h2, .inr ⟨vfind_none (pmE_ne hps), rfl⟩⟩
end

/-! ## Operations -/
theorem run_getMap {P : Program} {w : World} {r : Nat} {E : Array MapEntry} {clk : Nat} (h : w.heap[r]? = some (.map E clk)) : (getObj r).run P w = .ok (.map E clk) w := by
  simp only [getObj, Sem.run, h]
theorem run_setMap {P : Program} {w : World} {r : Nat} {E E' : Array MapEntry} {clk clk' : Nat} (h : w.heap[r]? = some (.map E clk)) : (setObj r (.map E' clk')).run P w = .ok () (World.put w r (.map E' clk')) := by
  simp only [setObj, Sem.run, h]; rfl
theorem run_findKey {P : Program} {w : World} {T : TypeId} {k : Int} {E : List MapEntry} {es : List (Int × Value)} (hT : P.underlying T = some (.int .i64)) (h : EntsL es E) : (Instr.findKey T (I k) E).run P w = .ok (vfind es k 0) w := by
  simp only [Instr.findKey, underlying, Sem.run_bind, run_program, Result.andThen_ok, hT, Sem.run_pure, findNow_ok k E es 0 h]
theorem run_checkKey {P : Program} {w : World} {T : TypeId} {k : Int} {e : Bool} (hT : P.underlying T = some (.int .i64)) : (Instr.checkKey e 10000 T (I k)).run P w = .ok () w := by
  show (Instr.checkKey e (9999 + 1) T (I k)).run P w = _
  unfold Instr.checkKey
  simp only [underlying, Sem.run_bind, run_program, Result.andThen_ok, hT, Sem.run_pure]
section
variable {P : Program} {n : Nat} {ρ : Nat → Value} {dst : Option Nat} {ty T Tk Te : TypeId} {pos : String} {af : Array Edge} {gd : Option (Nat × Bool)} {x y z : Operand} {v v' : Value} {b s bt lo el : Nat} {k : Int} {H : Array Obj}
variable {α : Type} [Rp α] {S0 : BS} {σ0 σ σ' : St} {L K R : List Ch} {m : List (Int × List α)} {xs : List α}
theorem ents_set {A B : List (Int × Value)} {k : Int} {v v' : Value} {E : Array MapEntry} (h : EntsL (A ++ (k, v) :: B) E.toList) :
    EntsL (A ++ (k, v') :: B) (E.modify A.length fun e => { e with key := I k, val := v' }).toList := by
  unfold EntsL at h ⊢
  rw [Array.toList_modify]
  have hl : A.length < E.toList.length := by
    have := congrArg List.length h
    simp at this ⊢; omega
  apply List.ext_getElem
  · have := congrArg List.length h
    simp at this ⊢; omega
  intro i h1 h2
  simp only [List.getElem_map, List.getElem_modify]
  have hi : i < E.toList.length := by simpa using h1
  have he : ((E.toList.map fun e => (e.key, e.val)))[i]'(by simpa using hi) = (((A ++ (k, v) :: B).map fun p => (I p.1, p.2)))[i]'(by rw [← h]; simpa using hi) := by simp only [h]
  simp only [List.getElem_map] at he
  by_cases hA : A.length = i
  · subst hA
    rw [if_pos rfl]
    simp
  · rw [if_neg hA, he]
    rcases Nat.lt_or_ge i A.length with hlt | hge
    · rw [List.getElem_append_left hlt, List.getElem_append_left hlt]
    · rw [List.getElem_append_right hge, List.getElem_append_right hge]
      obtain ⟨j, hj⟩ : ∃ j, i - A.length = j + 1 := ⟨i - A.length - 1, by omega⟩
      simp only [hj, List.getElem_cons_succ]
theorem ents_push {A : List (Int × Value)} {k : Int} {v' : Value} {E : Array MapEntry} {c : Nat} (h : EntsL A E.toList) : EntsL (A ++ [(k, v')]) (E.push { key := I k, val := v', born := c }).toList := by
  unfold EntsL at h ⊢
  simp [h]
theorem run_mapUpdate {w : World} {E : Array MapEntry} {clk : Nat} {es es' : List (Int × Value)} (hT : P.underlying T = some (.map Tk Te)) (hk : P.underlying Tk = some (.int .i64)) (h1 : w.heap[b]? = some (.map E clk)) (h2 : EntsL es E.toList)
    (h3 : (∃ A v B, es = A ++ (k, v) :: B ∧ (∀ p ∈ A, p.1 ≠ k) ∧ es' = A ++ (k, v') :: B) ∨ ((∀ p ∈ es, p.1 ≠ k) ∧ es' = es ++ [(k, v')])) :
    ∃ E' clk', (Instr.mapUpdate T (.map (some b)) (I k) v').run P w = .ok () (World.put w b (.map E' clk')) ∧ EntsL es' E'.toList := by
  have e1 := run_getMap (P := P) h1
  have e2 := run_checkKey (P := P) (w := w) (k := k) (e := false) hk
  have e3 := run_findKey (P := P) (w := w) (k := k) hk h2
  rcases h3 with ⟨A, v, B, rfl, hA, rfl⟩ | ⟨hn, rfl⟩
  · rw [vfind_some hA] at e3
    refine ⟨_, clk, ?_, ents_set (v' := v') h2⟩
    have hkey : ((E[A.length]?).map (·.key)).getD (I k) = I k := by
      have hl : A.length < E.toList.length := by
        have := congrArg List.length h2
        simp at this ⊢; omega
      have he : ((E.toList.map fun e => (e.key, e.val)))[A.length]'(by simpa using hl) = (((A ++ (k, v) :: B).map fun p => (I p.1, p.2)))[A.length]'(by simp) := by
        have h2' : E.toList.map (fun e => (e.key, e.val)) = (A ++ (k, v) :: B).map (fun p => (I p.1, p.2)) := h2
        simp only [h2']
      simp only [List.getElem_map, List.getElem_append_right (Nat.le_refl _), Nat.sub_self, List.getElem_cons_zero, Prod.mk.injEq] at he
      have hs : A.length < E.size := by simpa using hl
      rw [Array.getElem?_eq_getElem hs]
      simpa using he.1
    have hstay : (Instr.keyThatStays (I k) (I k)).run P w = .ok (I k) w := by
      have : Instr.sameBits 10000 (I k) (I k) = true := by
        show Instr.sameBits (9999 + 1) (.int .i64 k) (.int .i64 k) = true
        unfold Instr.sameBits; simp
      simp only [Instr.keyThatStays, this, if_true, Sem.run_pure]
    simp only [Nat.zero_add] at e3
    simp only [Instr.mapUpdate, underlying, Sem.run_bind, run_program, Result.andThen_ok, hT, Sem.run_pure, e1, e2, e3, hkey, hstay, run_setMap h1]
  · rw [vfind_none hn] at e3
    refine ⟨_, clk + 1, ?_, ents_push (v' := v') (c := clk) h2⟩
    simp only [Instr.mapUpdate, underlying, Sem.run_bind, run_program, Result.andThen_ok, hT, Sem.run_pure, e1, e2, e3, run_setMap h1]
theorem turn_mp {es es' : List (Int × Value)} {E' : Array MapEntry} {clk' : Nat} (Hh : Hp S0 σ0 σ (Ch.mp lo b es :: R)) (h2 : EntsL es' E'.toList) :
    Hp S0 σ0 (σ.put b (.map E' clk')) (Ch.mp lo b es' :: R) ∧ Md (fun i => i = b) σ (σ.put b (.map E' clk')) := by
  obtain ⟨⟨E, clk, h1, _⟩, h3, h4⟩ := Hh.head
  have hb := lt_of_block h1
  have m : Md (fun i => i = b) σ (σ.put b (.map E' clk')) := (St.put_mod h3).md.mono fun i hi => by cases hi; rfl
  exact ⟨Hp.frame1 (A' := [Ch.mp lo b es']) Hh (Hp.one (m.mono fun i hi => .inl hi) ⟨⟨E', clk', World.put_at _ hb, h2⟩, h3, h4⟩ (fun i hi _ => .inl hi)), m⟩
/-- A value, put (back) into the map. -/
theorem MpH.put (hK : MpH lo el b m k v K) (v' : Value) (ys : List α) : ∃ K2, Mp lo el b (mput m k ys) K2 ∧ ∀ {P : Program} {n : Nat} {ρ : Nat → Value} {dst : Option Nat} {ty T Tk Te : TypeId} {pos : String} {af : Array Edge} {gd : Option (Nat × Bool)} {x y z : Operand} {S0 : BS} {σ0 σ : St} {R : List Ch},
    Hp S0 σ0 σ (Ch.big K :: Ch.own lo el v' ys :: R) → P.underlying T = some (.map Tk Te) → P.underlying Tk = some (.int .i64) → ev n ρ x = .map (some b) → ev n ρ y = I k → ev n ρ z = v' →
    ExS P σ n ρ ⟨dst, .mapUpdate T x y z, ty, pos, af, gd⟩ fun σ' => Hp S0 σ0 σ' (Ch.big K2 :: R) ∧ Md (fun i => i = b) σ σ' := by
  have swap : ∀ {S0 : BS} {σ0 σ : St} {c d : Ch} {R : List Ch}, Hp S0 σ0 σ (c :: d :: R) → Hp S0 σ0 σ (d :: c :: R) := fun H => H.front (i := 1) rfl
  rcases hK.ex with ⟨A, xs, B, hA, rfl, rfl⟩ | ⟨ps, hps, rfl, rfl, rfl⟩
  · refine ⟨_, ⟨⟨A ++ (k, v', ys) :: B, mput_some hA, rfl⟩⟩, ?_⟩
    intro P n ρ dst ty T Tk Te pos af gd x y z S0 σ0 σ R H hT hk hx hy hz
    have H1 := H.unbig
    obtain ⟨⟨E, clk, h1, h2⟩, h3, h4⟩ := H1.head
    obtain ⟨E', clk', hr, h5⟩ := run_mapUpdate (P := P) (v' := v') (k := k) (es' := (A ++ (k, v', ys) :: B).map pmE) hT hk h1 h2 (.inl ⟨A.map pmE, v, B.map pmE, by rw [List.map_append]; rfl, pmE_ne hA, by rw [List.map_append]; rfl⟩)
    obtain ⟨H2, m2⟩ := turn_mp (clk' := clk') H1 h5
    refine ⟨σ.put b (.map E' clk'), ?_, ?_, m2⟩
    · simp [RunS, execOp, hx, hy, hz, hr, St.put]
    · rw [List.map_append (f := pmC lo el)] at H2
      have H3 := swap H2.tail
      have H4 := Hp.bigPut (A := A.map (pmC lo el)) (c := Ch.own lo el v' ys) (B := B.map (pmC lo el)) H3
      have H5 : Hp S0 σ0 (σ.put b (.map E' clk')) (Ch.mp lo b ((A ++ (k, v', ys) :: B).map pmE) :: Ch.big (A.map (pmC lo el) ++ Ch.own lo el v' ys :: B.map (pmC lo el)) :: R) := by
        refine ⟨H2.md, ⟨H2.all.1, H4.all⟩, ⟨fun i hi hc => ?_, H4.ap⟩, fun i hi => ?_⟩
        · refine H2.ap.1 i hi ?_
          rcases hc with hc | hc
          · rcases cov_append.1 hc with hc | hc | hc
            · exact .inl (cov_append.2 (.inl hc))
            · exact .inr (.inl hc)
            · exact .inl (cov_append.2 (.inr hc))
          · exact .inr (.inr hc)
        · rcases hi with hi | hi
          · exact H2.org i (.inl hi)
          · exact H4.org i hi
      have H6 := H5.bigCons
      rw [List.map_append (f := pmC lo el), List.map_cons (f := pmC lo el)]
      exact H6
  · refine ⟨_, ⟨⟨ps ++ [(k, v', ys)], mput_none hps, rfl⟩⟩, ?_⟩
    intro P n ρ dst ty T Tk Te pos af gd x y z S0 σ0 σ R H hT hk hx hy hz
    have H1 := H.unbig
    obtain ⟨⟨E, clk, h1, h2⟩, h3, h4⟩ := H1.head
    obtain ⟨E', clk', hr, h5⟩ := run_mapUpdate (P := P) (v' := v') (k := k) (es' := (ps ++ [(k, v', ys)]).map pmE) hT hk h1 h2 (.inr ⟨pmE_ne hps, by rw [List.map_append]; rfl⟩)
    obtain ⟨H2, m2⟩ := turn_mp (clk' := clk') H1 h5
    refine ⟨σ.put b (.map E' clk'), ?_, ?_, m2⟩
    · simp [RunS, execOp, hx, hy, hz, hr, St.put]
    · have H3 := swap H2.tail
      have H4 := H3.bigSnoc
      have H5 : Hp S0 σ0 (σ.put b (.map E' clk')) (Ch.mp lo b ((ps ++ [(k, v', ys)]).map pmE) :: Ch.big (ps.map (pmC lo el) ++ [Ch.own lo el v' ys]) :: R) := by
        refine ⟨H2.md, ⟨H2.all.1, H4.all⟩, ⟨fun i hi hc => ?_, H4.ap⟩, fun i hi => ?_⟩
        · refine H2.ap.1 i hi ?_
          rcases hc with hc | hc
          · rcases cov_append.1 hc with hc | hc | hc
            · exact .inl hc
            · exact .inr (.inl hc)
            · exact hc.elim
          · exact .inr (.inr hc)
        · rcases hi with hi | hi
          · exact H2.org i (.inl hi)
          · exact H4.org i hi
      have H6 := H5.bigCons
      rw [List.map_append (f := pmC lo el)]
      exact H6

/-! ## A map whose values are published -/
end
end Go.Vs

namespace Go.Vs
open Go

section
variable {α β : Type} [Rp α] [Rp β] [Dl α β] {S0 : BS} {σ0 σ σ' : St} {L K R : List Ch} {lo i : Nat} {v u : Value} {xs : List α} {a : Int} {e : α}

omit [Rp α] [Rp β] [Dl α β] in
theorem gidx_of_map {γ : Type} (f : γ → α) {ps : List γ} {a : Int} {p : γ} (h : gidx ps a = some p) : gidx (ps.map f) a = some (f p) := by
  unfold gidx at *
  split at h
  · rename_i h0
    rw [if_pos h0, List.getElem?_map, h]; rfl
  · cases h
/-- .. of which the memory of one element, e at a with the slice u, has been taken out. -/
structure DpH (lo : Nat) (v : Value) (xs : List α) (a : Int) (e : α) (u : Value) (K : List Ch) : Prop where
  ex : ∃ A B : List (α × Value), xs = (A ++ (e, u) :: B).map (·.1) ∧ a = (A.length : Int) ∧ K = Ch.own lo lo v ((A ++ (e, u) :: B).map dsh) :: (A ++ B).map (dow lo)
theorem DpH.at {b o : Nat} (hK : DpH lo v xs a e u K) (H : Hp S0 σ0 σ L) (i : Nat) (hn : nth L i = some (Ch.big K)) (hi : Ix v a (Rp.sz α) b o) : At lo σ b o (Dl.sh e u) := by
  have hb : allAs σ K ∧ apart K := H.get hn
  obtain ⟨A, B, rfl, rfl, rfl⟩ := hK.ex
  have hO : Ow σ lo lo v ((A ++ (e, u) :: B).map dsh) := hb.1.1
  have hg : gidx ((A ++ (e, u) :: B).map (dsh (α := α) (β := β))) (A.length : Int) = some (Dl.sh e u) := by
    refine gidx_of_map dsh (p := (e, u)) ?_
    unfold gidx
    rw [if_pos (by omega)]
    simp
  rw [Dl.sz (α := α) (β := β)] at hi
  exact hO.at hg hi
theorem At.val {b o : Nat} {u : Value} (h : At lo σ b o u) : HCell σ.w.heap b o = some u := by
  obtain ⟨cs, ⟨rfl, _⟩, h2⟩ := h
  rw [HCell_eq]; exact h2 0 (by simp)
end

section
variable {α β : Type} [Rp α] [Rp β] [Dl α β] {S0 : BS} {σ0 σ σ' : St} {L K R : List Ch} {lo i : Nat} {v u u' w : Value} {xs : List α} {a : Int} {e : α}
/-- What is stored into the element whose memory is out; its memory comes in. -/
theorem DpH.put (hK : DpH lo v xs a e u K) (e' : α) (u' : Value) : ∃ K2, Dp lo v (xs.set a.toNat e') K2 ∧ ∀ {P : Program} {n : Nat} {ρ : Nat → Value} {dst : Option Nat} {ty T : TypeId} {z : Value} {s bt : Nat} {pos : String} {af : Array Edge} {gd : Option (Nat × Bool)} {x y : Operand} {w : Value} {bl o o' k : Nat} {vs : List Value} {S0 : BS} {σ0 σ : St} {R : List Ch},
    Hp S0 σ0 σ (Ch.big K :: Ch.own lo lo u' (Dl.inn e') :: R) → TI P T z s bt → Ix v a (Rp.sz α) bl o → ev n ρ x = pt bl o' → o' = o + k → ev n ρ y = w → w.cells = vs.toArray → vs.length = s → k + vs.length ≤ Rp.sz α → (∀ t ∈ vs, plain t = true) →
    (∀ {σ : St} cs, Rp.rp lo σ cs (Dl.sh e u) → Rp.rp lo σ (wrL cs k vs) (Dl.sh e' u')) →
    ExS P σ n ρ ⟨dst, .store T x y, ty, pos, af, gd⟩ fun σ' => Hp S0 σ0 σ' (Ch.big K2 :: R) ∧ Md (fun b => blk v = some b) σ σ' := by
  obtain ⟨A, B, rfl, rfl, rfl⟩ := hK.ex
  have hset : ((A ++ (e, u) :: B).map (dsh (α := α) (β := β))).set (A.length : Int).toNat (Dl.sh e' u') = (A ++ (e', u') :: B).map dsh := by
    rw [Int.toNat_natCast, List.map_append, List.set_append_right _ _ (by simp), List.length_map, Nat.sub_self, List.map_cons, List.set_cons_zero, List.map_append]; rfl
  refine ⟨_, ⟨⟨A ++ (e', u') :: B, ?_, rfl⟩⟩, ?_⟩
  · rw [Int.toNat_natCast, List.map_append, List.set_append_right _ _ (by simp), List.length_map, Nat.sub_self, List.map_cons, List.set_cons_zero, List.map_append]; rfl
  intro P n ρ dst ty T z s bt pos af gd x y w bl o o' k vs S0 σ0 σ R H hT hi hx ho hy hw hs hk hp hrp
  have H1 := H.unbig
  have hg : gidx ((A ++ (e, u) :: B).map (dsh (α := α) (β := β))) (A.length : Int) = some (Dl.sh e u) := by
    refine gidx_of_map dsh (p := (e, u)) ?_
    unfold gidx
    rw [if_pos (by omega)]
    simp
  rw [Dl.sz (α := α) (β := β)] at hi hk
  obtain ⟨σ', h1, H2, m⟩ := ex_store_own (P := P) (dst := dst) (ty := ty) (pos := pos) (af := af) (gd := gd) (e' := Dl.sh e' u') H1 (i := 0) rfl hT hg hi hx ho hy hw hs hk hp (hrp (σ := σ))
  refine ⟨σ', h1, ?_, m⟩
  rw [hset] at H2
  have H3 := H2.tail
  rw [List.map_append (f := dow lo)] at H3
  have H4 := Hp.bigPut (A := A.map (dow lo)) (c := Ch.own lo lo u' (Dl.inn e')) (B := B.map (dow lo)) (H3.front (i := 1) rfl)
  have H5 : Hp S0 σ0 σ' (Ch.own lo lo v ((A ++ (e', u') :: B).map dsh) :: Ch.big (A.map (dow lo) ++ Ch.own lo lo u' (Dl.inn e') :: B.map (dow lo)) :: R) := by
    refine ⟨H2.md, ⟨H2.all.1, H4.all⟩, ⟨fun j hj hc => ?_, H4.ap⟩, fun j hj => ?_⟩
    · refine H2.ap.1 j hj ?_
      rcases hc with hc | hc
      · rcases cov_append.1 hc with hc | hc | hc
        · refine .inl ?_; rw [List.map_append]; exact cov_append.2 (.inl hc)
        · exact .inr (.inl hc)
        · refine .inl ?_; rw [List.map_append]; exact cov_append.2 (.inr hc)
      · exact .inr (.inr hc)
    · rcases hj with hj | hj
      · exact H2.org j (.inl hj)
      · exact H4.org j hj
  have H6 := H5.bigCons
  rw [List.map_append (f := dow lo), List.map_cons (f := dow lo)]
  exact H6
end

section
variable {α β : Type} [Rp α] [Rp β] [Dl α β] {S0 : BS} {σ0 σ σ' : St} {L K R : List Ch} {lo i m : Nat} {v : Value} {xs : List α}
theorem Ab.big {K : List Ch} (h : AllAb m K) : Ab m (Ch.big K) := fun _ _ hw hv ha => ⟨allAb_as hw h hv ha.1, ha.2⟩
end

section
variable {α β : Type} [Rp α] [Rp β] [Dl α β] {S0 : BS} {σ0 σ σ' : St} {L K R : List Ch} {lo lo' i m : Nat} {v : Value} {xs : List α}
end

section
variable {α : Type} [Rp α] [Sc α] {S0 : BS} {σ0 σ : St} {L R : List Ch} {lo el : Nat} {v : Value} {xs : List α}
end
end Go.Vs

namespace Go.Vs

end Go.Vs

namespace Go.Vs
end Go.Vs

namespace Go.Vs
end Go.Vs

namespace Go.Vs
def If2 (A B : Type) : Type := Int × A × B
@[reducible] def If2.mk {A B : Type} (k : Int) (a : A) (b : B) : If2 A B := (k, a, b)
end Go.Vs
