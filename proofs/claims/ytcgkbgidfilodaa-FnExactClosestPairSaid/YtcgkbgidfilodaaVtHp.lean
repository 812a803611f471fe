/- Memory as a list of chunks that lie apart: what a function has, what it lends to a call, what it gets back. -/
import Derived.Test.YtcgkbgidfilodaaVsModel
set_option linter.unusedVariables false
set_option linter.unusedSimpArgs false
namespace Go.Vs
open Go

abbrev BS := Nat → Prop

/-- The streams are as they were; what was published reads as it did; of the blocks that were there only those of S have turned. -/
structure Md (S : BS) (σ σ' : St) : Prop where
  os : σ'.w.os = σ.w.os
  tape : σ'.w.tape = σ.w.tape
  output : σ'.w.output = σ.w.output
  dr : σ.w.drawn ≤ σ'.w.drawn
  ext : Ext σ σ'
  block : ∀ b, b < σ.size → ¬ S b → σ'.w.heap[b]? = σ.w.heap[b]?
  vis : ∀ b, b < σ.size → ¬ S b → σ'.vis b = σ.vis b

theorem Mod.md {S : Option Nat} {σ σ' : St} (m : Mod S σ σ') : Md (fun b => S = Option.some b) σ σ' :=
  ⟨m.os, m.tape, m.output, m.dr, m.ext, fun b h hn => m.oth.block b h hn, fun b h hn => m.oth.vis b h hn⟩
theorem Md.refl (S : BS) (σ : St) : Md S σ σ := ⟨rfl, rfl, rfl, Nat.le_refl _, Ext.refl _, fun _ _ _ => rfl, fun _ _ _ => rfl⟩
theorem Md.size {S : BS} {σ σ' : St} (h : Md S σ σ') : σ.size ≤ σ'.size := h.ext.size
theorem Md.step {S S' : BS} {a b c : St} (h : Md S a b) (k : Md S' b c) (hs : ∀ i, i < a.size → S' i → S i) : Md S a c :=
  ⟨k.os.trans h.os, k.tape.trans h.tape, k.output.trans h.output, Nat.le_trans h.dr k.dr, h.ext.trans k.ext,
    fun i hi hn => (k.block i (Nat.lt_of_lt_of_le hi h.size) (fun e => hn (hs i hi e))).trans (h.block i hi hn),
    fun i hi hn => (k.vis i (Nat.lt_of_lt_of_le hi h.size) (fun e => hn (hs i hi e))).trans (h.vis i hi hn)⟩
theorem Md.mono {S S' : BS} {a b : St} (h : Md S a b) (hs : ∀ i, S i → S' i) : Md S' a b :=
  ⟨h.os, h.tape, h.output, h.dr, h.ext, fun i hi hn => h.block i hi (fun e => hn (hs i e)), fun i hi hn => h.vis i hi (fun e => hn (hs i e))⟩

/-- A chunk: which blocks it covers, what is said of the memory; a chunk that covers nothing may be had twice. -/
structure Ch where
  dup : Bool
  fp : BS
  as : St → Prop
  hdup : dup = true → ∀ b, ¬ fp b
  hlt : ∀ {σ : St}, as σ → ∀ b, fp b → b < σ.size
  hst : ∀ {S : BS} {σ σ' : St}, Md S σ σ' → (∀ b, fp b → ¬ S b) → as σ → as σ'

section
variable {α : Type} [Rp α]

/-- A slice that is published. -/
def Ch.ro (el : Nat) (v : Value) (xs : List α) : Ch where
  dup := true
  fp _ := False
  as σ := RS el σ v xs
  hdup _ _ := id
  hlt _ _ h := h.elim
  hst m _ h := h.ext m.ext

theorem Ow.md {el : Nat} {σ σ' : St} {lo : Nat} {v : Value} {xs : List α} {S : BS} (h : Ow σ lo el v xs) (m : Md S σ σ') (hd : ∀ b, blk v = some b → ¬ S b) : Ow σ' lo el v xs := by
  rcases h with h | ⟨b, o, c, C, T, rfl, h2, h3, h4, h5, h6, h7⟩
  · exact .inl h
  · have hb : b < σ.size := lt_of_block h3
    have hS := hd b rfl
    have e1 := m.block b hb hS
    exact .inr ⟨b, o, c, C, T, rfl, h2, e1.trans h3, h4, h5, (m.vis b hb hS).trans h6, fun i hi => (h7 i hi).same m.ext e1⟩

/-- A slice that is the function's own. -/
def Ch.own (lo el : Nat) (v : Value) (xs : List α) : Ch where
  dup := false
  fp b := blk v = some b
  as σ := Ow σ lo el v xs
  hdup h := by cases h
  hlt h b e := h.lt b e
  hst m hd h := h.md m hd
end

/-- A box, or a part of one: the cells from o on; what lies before and behind. -/
def Ch.bx (lo b o : Nat) (cs pre suf : List Value) : Ch where
  dup := false
  fp i := i = b
  as σ := Bx σ b (pre ++ (cs ++ suf)) ∧ pre.length = o ∧ lo ≤ b
  hdup h := by cases h
  hlt h i e := by subst e; exact h.1.lt
  hst m hd h := by
    obtain ⟨⟨T, h1, h2⟩, h3⟩ := h
    have hb := lt_of_block h1
    have hS := hd b rfl
    exact ⟨⟨T, (m.block b hb hS).trans h1, (m.vis b hb hS).trans h2⟩, h3⟩

/-- All that chunks cover. -/
def cov : List Ch → BS
  | [], _ => False
  | c :: l, b => c.fp b ∨ cov l b
def allAs (σ : St) : List Ch → Prop
  | [] => True
  | c :: l => c.as σ ∧ allAs σ l
def apart : List Ch → Prop
  | [] => True
  | c :: l => (∀ b, c.fp b → ¬ cov l b) ∧ apart l

theorem cov_append {A R : List Ch} {b : Nat} : cov (A ++ R) b ↔ cov A b ∨ cov R b := by
  induction A with
  | nil => simp [cov]
  | cons c l ih => simp only [List.cons_append, cov, ih, or_assoc]
theorem allAs_append {σ : St} {A R : List Ch} : allAs σ (A ++ R) ↔ allAs σ A ∧ allAs σ R := by
  induction A with
  | nil => simp [allAs]
  | cons c l ih => simp only [List.cons_append, allAs, ih, and_assoc]
theorem apart_append {A R : List Ch} : apart (A ++ R) ↔ apart A ∧ apart R ∧ ∀ b, cov A b → ¬ cov R b := by
  induction A with
  | nil => simp [apart, cov]
  | cons c l ih =>
    simp only [List.cons_append, apart, cov, ih, cov_append]
    constructor
    · rintro ⟨h1, h2, h3, h4⟩
      exact ⟨⟨fun b hb h => h1 b hb (.inl h), h2⟩, h3, fun b hb h => hb.elim (fun hb => h1 b hb (.inr h)) (fun hb => h4 b hb h)⟩
    · rintro ⟨⟨h1, h2⟩, h3, h4⟩
      exact ⟨fun b hb h => h.elim (h1 b hb) (h4 b (.inl hb)), h2, h3, fun b hb => h4 b (.inr hb)⟩
theorem allAs_lt {σ : St} {L : List Ch} (h : allAs σ L) : ∀ b, cov L b → b < σ.size := by
  induction L with
  | nil => intro b hb; exact hb.elim
  | cons c l ih => intro b hb; exact hb.elim (c.hlt h.1 b) (ih h.2 b)
theorem allAs_md {σ σ' : St} {S : BS} {L : List Ch} (h : allAs σ L) (m : Md S σ σ') (hd : ∀ b, cov L b → ¬ S b) : allAs σ' L := by
  induction L with
  | nil => trivial
  | cons c l ih => exact ⟨c.hst m (fun b hb => hd b (.inl hb)) h.1, ih h.2 (fun b hb => hd b (.inr hb))⟩

/-- What the function has now, since it began. -/
structure Hp (S0 : BS) (σ0 σ : St) (L : List Ch) : Prop where
  md : Md S0 σ0 σ
  all : allAs σ L
  ap : apart L
  org : ∀ b, cov L b → b < σ0.size → S0 b

section
variable {S0 : BS} {σ0 σ σ' : St} {L A A' R : List Ch} {c d : Ch}

theorem Hp.size (H : Hp S0 σ0 σ L) : σ0.size ≤ σ.size := H.md.size

/-- Some chunks are turned, the others stay. -/
theorem Hp.frame (H : Hp S0 σ0 σ (A ++ R)) (H' : Hp (cov A) σ σ' A') : Hp S0 σ0 σ' (A' ++ R) := by
  obtain ⟨ha, hr⟩ := allAs_append.1 H.all
  obtain ⟨h1, h2, h3⟩ := apart_append.1 H.ap
  refine ⟨H.md.step H'.md (fun i hi h => H.org i (cov_append.2 (.inl h)) hi), allAs_append.2 ⟨H'.all, allAs_md hr H'.md (fun b hb h => h3 b h hb)⟩, apart_append.2 ⟨H'.ap, h2, fun b hb hb' => ?_⟩, fun b hb hlt => ?_⟩
  · have hlt := allAs_lt hr b hb'
    exact h3 b (H'.org b hb hlt) hb'
  · rcases cov_append.1 hb with hb | hb
    · have hs : b < σ.size := Nat.lt_of_lt_of_le hlt H.md.size
      exact H.org b (cov_append.2 (.inl (H'.org b hb hs))) hlt
    · exact H.org b (cov_append.2 (.inr hb)) hlt
theorem Hp.frame1 (H : Hp S0 σ0 σ (c :: R)) (H' : Hp (cov [c]) σ σ' A') : Hp S0 σ0 σ' (A' ++ R) := Hp.frame (A := [c]) H H'
theorem Hp.frame0 (H : Hp S0 σ0 σ R) (H' : Hp (cov []) σ σ' A') : Hp S0 σ0 σ' (A' ++ R) := Hp.frame (A := []) H H'
theorem Hp.begin {σ : St} (ha : allAs σ L) (hp : apart L) : Hp (cov L) σ σ L := ⟨Md.refl _ _, ha, hp, fun _ h _ => h⟩
/-- One chunk of what there was. -/
theorem Hp.one (m : Md S0 σ σ') (h : c.as σ') (hf : ∀ b, c.fp b → b < σ.size → S0 b) : Hp S0 σ σ' [c] :=
  ⟨m, ⟨h, trivial⟩, ⟨fun _ _ h => h, trivial⟩, fun b hb => hb.elim (hf b) (fun h => h.elim)⟩
theorem Hp.tail (H : Hp S0 σ0 σ (c :: R)) : Hp S0 σ0 σ R := ⟨H.md, H.all.2, H.ap.2, fun b hb => H.org b (.inr hb)⟩
theorem Hp.head (H : Hp S0 σ0 σ (c :: R)) : c.as σ := H.all.1
/-- Another word for a chunk. -/
theorem Hp.turn (H : Hp S0 σ0 σ (c :: R)) (h : c.as σ → d.as σ) (hf : ∀ b, d.fp b → c.fp b) : Hp S0 σ0 σ (d :: R) :=
  ⟨H.md, ⟨h H.all.1, H.all.2⟩, ⟨fun b hb => H.ap.1 b (hf b hb), H.ap.2⟩, fun b hb => H.org b (hb.imp (hf b) id)⟩
/-- What covers nothing may be added. -/
theorem Hp.add (H : Hp S0 σ0 σ R) (h : d.as σ) (hf : ∀ b, ¬ d.fp b) : Hp S0 σ0 σ (d :: R) :=
  ⟨H.md, ⟨h, H.all⟩, ⟨fun b hb => (hf b hb).elim, H.ap⟩, fun b hb => hb.elim (fun hb => (hf b hb).elim) (H.org b)⟩
/-- Nothing but growth. -/
theorem Hp.grow (H : Hp S0 σ0 σ L) (m : Md (fun _ => False) σ σ') : Hp S0 σ0 σ' L :=
  ⟨H.md.step m (fun _ _ h => h.elim), allAs_md H.all m (fun _ _ h => h), H.ap, H.org⟩

/-! ## Choosing chunks -/
def nth : List Ch → Nat → Option Ch
  | [], _ => none
  | c :: _, 0 => some c
  | _ :: l, n + 1 => nth l n
def pick : List Ch → Nat → Option (Ch × List Ch)
  | [], _ => none
  | c :: l, 0 => some (c, l)
  | c :: l, n + 1 => match pick l n with
    | some (d, r) => some (d, c :: r)
    | none => none
theorem pick_cov : ∀ {L : List Ch} {i : Nat} {c : Ch} {R : List Ch}, pick L i = some (c, R) → ∀ b, cov L b ↔ c.fp b ∨ cov R b
  | [], _, _, _, h => by cases h
  | c :: l, 0, _, _, h => by cases h; intro b; rfl
  | c :: l, n + 1, d, R, h => by
    intro b
    simp only [pick] at h
    split at h
    · rename_i d' r hp
      cases h
      have := pick_cov hp b
      simp only [cov, this]
      constructor
      · rintro (h | h | h)
        · exact .inr (.inl h)
        · exact .inl h
        · exact .inr (.inr h)
      · rintro (h | h | h)
        · exact .inr (.inl h)
        · exact .inl h
        · exact .inr (.inr h)
    · cases h
theorem pick_all {σ : St} : ∀ {L : List Ch} {i : Nat} {c : Ch} {R : List Ch}, pick L i = some (c, R) → allAs σ L → c.as σ ∧ allAs σ R
  | [], _, _, _, h => by cases h
  | c :: l, 0, _, _, h => by cases h; exact id
  | c :: l, n + 1, d, R, h => by
    simp only [pick] at h
    split at h
    · rename_i d' r hp
      cases h
      rintro ⟨h1, h2⟩
      have := pick_all hp h2
      exact ⟨this.1, h1, this.2⟩
    · cases h
theorem pick_apart : ∀ {L : List Ch} {i : Nat} {c : Ch} {R : List Ch}, pick L i = some (c, R) → apart L → apart (c :: R)
  | [], _, _, _, h => by cases h
  | c :: l, 0, _, _, h => by cases h; exact id
  | c :: l, n + 1, d, R, h => by
    simp only [pick] at h
    split at h
    · rename_i d' r hp
      cases h
      rintro ⟨h1, h2⟩
      have h3 := pick_apart hp h2
      have h4 := pick_cov hp
      refine ⟨fun b hb => ?_, fun b hb => ?_, h3.2⟩
      · rintro (h | h)
        · exact h1 b h ((h4 b).2 (.inl hb))
        · exact h3.1 b hb h
      · exact fun h => h1 b hb ((h4 b).2 (.inr h))
    · cases h
theorem Hp.front (H : Hp S0 σ0 σ L) {i : Nat} (h : pick L i = some (c, R)) : Hp S0 σ0 σ (c :: R) :=
  ⟨H.md, pick_all h H.all, pick_apart h H.ap, fun b hb => H.org b ((pick_cov h b).2 hb)⟩
theorem nth_all {σ : St} : ∀ {L : List Ch} {i : Nat} {c : Ch}, nth L i = some c → allAs σ L → c.as σ
  | [], _, _, h, _ => by cases h
  | _ :: _, 0, _, h, ha => by cases h; exact ha.1
  | _ :: l, n + 1, _, h, ha => nth_all (L := l) (i := n) h ha.2
theorem Hp.get (H : Hp S0 σ0 σ L) {i : Nat} (h : nth L i = some c) : c.as σ := nth_all h H.all

/-- A selection: by numbers; what covers nothing may be taken more than once. -/
def selL (L : List Ch) : List Nat → List Ch
  | [] => []
  | k :: ks => match nth L k with
    | some c => c :: selL L ks
    | none => selL L ks
def selB (L : List Ch) : List Nat → Bool
  | [] => true
  | k :: ks => (match nth L k with
    | some c => c.dup || ks.all (fun j => !Nat.beq j k)
    | none => false) && selB L ks

theorem sel_cov {L : List Ch} : ∀ {ks : List Nat} {b : Nat}, cov (selL L ks) b → ∃ k ∈ ks, ∃ c, nth L k = some c ∧ c.fp b
  | [], b, h => h.elim
  | k :: ks, b, h => by
    simp only [selL] at h
    split at h
    · rename_i c hc
      rcases h with h | h
      · exact ⟨k, by simp, c, hc, h⟩
      · obtain ⟨j, hj, d, hd, h⟩ := sel_cov h
        exact ⟨j, by simp [hj], d, hd, h⟩
    · obtain ⟨j, hj, d, hd, h⟩ := sel_cov h
      exact ⟨j, by simp [hj], d, hd, h⟩
theorem nth_cov : ∀ {L : List Ch} {k : Nat} {c : Ch} {b : Nat}, nth L k = some c → c.fp b → cov L b
  | [], _, _, _, h, _ => by cases h
  | _ :: _, 0, _, _, h, hb => by cases h; exact .inl hb
  | _ :: l, n + 1, _, _, h, hb => .inr (nth_cov (L := l) (k := n) h hb)
theorem nth_apart : ∀ {L : List Ch} {i j : Nat} {c d : Ch} {b : Nat}, apart L → i ≠ j → nth L i = some c → nth L j = some d → c.fp b → ¬ d.fp b
  | [], _, _, _, _, _, _, _, h, _, _ => by cases h
  | _ :: _, 0, 0, _, _, _, _, hne, _, _, _ => absurd rfl hne
  | e :: l, 0, j + 1, _, _, b, ha, _, h1, h2, hb => by cases h1; exact fun h => ha.1 b hb (nth_cov (L := l) (k := j) h2 h)
  | e :: l, i + 1, 0, _, _, b, ha, _, h1, h2, hb => by cases h2; exact fun h => ha.1 b h (nth_cov (L := l) (k := i) h1 hb)
  | e :: l, i + 1, j + 1, c, d, b, ha, hne, h1, h2, hb => nth_apart (L := l) (i := i) (j := j) ha.2 (fun e => hne (by rw [e])) h1 h2 hb
theorem sel_all {σ : St} {L : List Ch} (H : ∀ k c, nth L k = some c → c.as σ) : ∀ ks : List Nat, allAs σ (selL L ks)
  | [] => trivial
  | k :: ks => by
    simp only [selL]
    split
    · rename_i c hc; exact ⟨H k c hc, sel_all H ks⟩
    · exact sel_all H ks
theorem sel_apart {L : List Ch} (ha : apart L) : ∀ {ks : List Nat}, selB L ks = true → apart (selL L ks)
  | [], _ => trivial
  | k :: ks, h => by
    simp only [selB, Bool.and_eq_true] at h
    obtain ⟨h1, h2⟩ := h
    simp only [selL]
    split
    · rename_i c hc
      rw [hc] at h1
      refine ⟨fun b hb hcv => ?_, sel_apart ha h2⟩
      simp only [Bool.or_eq_true] at h1
      rcases h1 with h1 | h1
      · exact c.hdup h1 b hb
      · obtain ⟨j, hj, d, hd, hdb⟩ := sel_cov hcv
        have := List.all_eq_true.1 h1 j hj
        have hne : j ≠ k := by rintro rfl; simp [Nat.beq_refl] at this
        exact nth_apart ha (Ne.symm hne) hc hd hb hdb
    · exact sel_apart ha h2
theorem Hp.sel (H : Hp S0 σ0 σ L) (ks : List Nat) (h : selB L ks = true) : Hp S0 σ0 σ (selL L ks) :=
  ⟨H.md, sel_all (fun _ _ hk => H.get hk) ks, sel_apart H.ap h, fun b hb => by
    obtain ⟨k, _, c, hc, hb⟩ := sel_cov hb
    exact H.org b (nth_cov hc hb)⟩
theorem Hp.sel' (H : Hp S0 σ0 σ L) (ks : List Nat) {L' : List Ch} (h : selB L ks = true) (e : selL L ks = L') : Hp S0 σ0 σ L' := e ▸ H.sel ks h
end

/-! ## What is known of a chunk -/
section
variable {S0 : BS} {σ0 σ σ' : St} {L R : List Ch} {α : Type} [Rp α] {el lo : Nat} {v : Value} {xs : List α} {i b o : Nat} {cs pre suf : List Value}
theorem Hp.ro (H : Hp S0 σ0 σ L) (i : Nat) (h : nth L i = some (Ch.ro el v xs)) : RS el σ v xs := H.get h
theorem Hp.own (H : Hp S0 σ0 σ L) (i : Nat) (h : nth L i = some (Ch.own lo el v xs)) : Ow σ lo el v xs := H.get h
theorem Hp.bx (H : Hp S0 σ0 σ L) (i : Nat) (h : nth L i = some (Ch.bx lo b o cs pre suf)) : Bx σ b (pre ++ (cs ++ suf)) ∧ pre.length = o ∧ lo ≤ b := H.get h

theorem bx_at {k : Nat} {u : Value} (h : Bx σ b (pre ++ (cs ++ suf)) ∧ pre.length = o ∧ lo ≤ b) (hu : cs[k]? = some u) : HCell σ.w.heap b (o + k) = some u := by
  obtain ⟨⟨T, h1, _⟩, h2, _⟩ := h
  have hk := (List.getElem?_eq_some_iff.1 hu).1
  unfold HCell
  rw [h1]
  simp only [List.getElem?_toArray]
  rw [List.getElem?_append_right (by omega), List.getElem?_append_left (by omega), ← hu]
  congr 1; omega
/-- A cell of a box. -/
theorem Hp.cell (H : Hp S0 σ0 σ L) (i k : Nat) {u : Value} {o' : Nat} (h : nth L i = some (Ch.bx lo b o cs pre suf)) (hu : cs[k]? = some u) (ho : o' = o + k) : HCell σ.w.heap b o' = some u := by
  subst ho; exact bx_at (H.bx i h) hu
theorem Hp.cells (H : Hp S0 σ0 σ L) (i : Nat) (h : nth L i = some (Ch.bx lo b o cs pre suf)) : ∀ j, (hj : j < cs.length) → HCell σ.w.heap b (o + j) = some cs[j] :=
  fun j hj => bx_at (H.bx i h) (List.getElem?_eq_getElem hj)
/-- Some cells in the midst of a box. -/
theorem Hp.part (H : Hp S0 σ0 σ L) (i k m : Nat) {us : List Value} (h : nth L i = some (Ch.bx lo b o cs pre suf)) (hu : (cs.drop k).take m = us) (hm : us.length = m) {o' : Nat} (ho : o' = o + k) :
    ∀ j, (hj : j < us.length) → HCell σ.w.heap b (o' + j) = some us[j] := by
  subst ho
  intro j hj
  rw [Nat.add_assoc]
  refine bx_at (H.bx i h) ?_
  have : us[j]? = some us[j] := List.getElem?_eq_getElem hj
  rw [← this, ← hu, List.getElem?_take, if_pos (by omega), List.getElem?_drop]

/-! ## Publishing -/
theorem Hp.pub (H : Hp S0 σ0 σ L) (i : Nat) (h : pick L i = some (Ch.own lo el v xs, R)) (hel : el ≤ lo) : ∃ σ' : St, σ'.w = σ.w ∧ Hp S0 σ0 σ' (Ch.ro el v xs :: R) ∧ Md (fun b => blk v = Option.some b) σ σ' := by
  have H1 := H.front h
  obtain ⟨σ', hw, m, hR⟩ := Ow.pub' (H1.head : Ow σ lo el v xs) hel
  refine ⟨σ', hw, Hp.frame1 (A' := [Ch.ro el v xs]) H1 (Hp.one (m.md.mono fun b hb => .inl hb) hR (fun b hb => hb.elim)), m.md⟩
/-- The deep bound is lowered. -/
theorem Hp.roLow (H : Hp S0 σ0 σ L) (i el' : Nat) (h : nth L i = some (Ch.ro el v xs)) (hl : el' ≤ el) : Hp S0 σ0 σ (Ch.ro el' v xs :: L) :=
  H.add (d := Ch.ro el' v xs) ((H.ro i h).low hl) (fun _ h => h)
theorem Hp.ownLow (H : Hp S0 σ0 σ L) (i lo' el' : Nat) (h : pick L i = some (Ch.own lo el v xs, R)) (h1 : lo' ≤ lo) (h2 : el' ≤ el) : Hp S0 σ0 σ (Ch.own lo' el' v xs :: R) :=
  (H.front h).turn (d := Ch.own lo' el' v xs) (fun h : Ow σ lo el v xs => (h.lo h1).low' h2) (fun _ h => h)
theorem Hp.ownSc [Sc α] (H : Hp S0 σ0 σ L) (i lo' el' : Nat) (h : pick L i = some (Ch.own lo el v xs, R)) (h1 : lo' ≤ lo) : Hp S0 σ0 σ (Ch.own lo' el' v xs :: R) :=
  (H.front h).turn (d := Ch.own lo' el' v xs) (fun h : Ow σ lo el v xs => (h.lo h1).sc) (fun _ h => h)
theorem Hp.nilRo (H : Hp S0 σ0 σ L) (α : Type) [Rp α] (el : Nat) : Hp S0 σ0 σ (Ch.ro el (.slice none 0 0) ([] : List α) :: L) := H.add (d := Ch.ro el _ _) RS.nil (fun _ h => h)
theorem Hp.nilOwn (H : Hp S0 σ0 σ L) (α : Type) [Rp α] (lo el : Nat) : Hp S0 σ0 σ (Ch.own lo el (.slice none 0 0) ([] : List α) :: L) := H.add (d := Ch.own lo el _ _) Ow.nil (fun _ h => by cases h)
theorem Hp.fresh (m : Mod none σ σ') (c : Ch) (h : c.as σ') (hf : ∀ b, c.fp b → σ.size ≤ b) : Hp (cov []) σ σ' [c] :=
  Hp.one (m.md.mono fun b hb => by cases hb) h (fun b hb hlt => absurd hlt (Nat.not_lt.2 (hf b hb)))
/-- A part of a box by itself, and back. -/
theorem Hp.focus {c1 c2 c3 : List Value} (H : Hp S0 σ0 σ L) (i : Nat) (h : pick L i = some (Ch.bx lo b o (c1 ++ (c2 ++ c3)) pre suf, R)) {o' : Nat} (ho : o' = o + c1.length) :
    Hp S0 σ0 σ (Ch.bx lo b o' c2 (pre ++ c1) (c3 ++ suf) :: R) :=
  (H.front h).turn (d := Ch.bx lo b o' c2 (pre ++ c1) (c3 ++ suf)) (fun ⟨h1, h2, h3⟩ => ⟨by simpa [List.append_assoc] using h1, by subst ho; simp [h2], h3⟩) (fun _ h => h)
theorem Hp.unfocus {c1 c2 c3 : List Value} {o' : Nat} (H : Hp S0 σ0 σ L) (i : Nat) (h : pick L i = some (Ch.bx lo b o' c2 (pre ++ c1) (c3 ++ suf), R)) (ho : o' = o + c1.length) :
    Hp S0 σ0 σ (Ch.bx lo b o (c1 ++ (c2 ++ c3)) pre suf :: R) :=
  (H.front h).turn (d := Ch.bx lo b o (c1 ++ (c2 ++ c3)) pre suf) (fun ⟨h1, h2, h3⟩ => ⟨by simpa [List.append_assoc] using h1, by subst ho; simp at h2; omega, h3⟩) (fun _ h => h)
end
end Go.Vs
