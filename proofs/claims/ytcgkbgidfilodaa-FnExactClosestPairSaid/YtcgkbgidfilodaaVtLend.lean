/- Own slices that are lent to a call: published for its time, and the caller's own again behind it. -/
import Derived.Test.YtcgkbgidfilodaaVtEnd
set_option linter.unusedVariables false
set_option linter.unusedSimpArgs false
namespace Go.Vs
open Go

/-- What is lent, what is handed over, and how the callee asks for both. -/
inductive Loan : List Ch → List Ch → List Ch → Prop
  | nil : Loan [] [] []
  | lend {α : Type} [Rp α] {lo el : Nat} {v : Value} {xs : List α} {Ln A B : List Ch} : Loan Ln A B → Loan (Ch.own lo el v xs :: Ln) A (Ch.ro 0 v xs :: B)
  | same {c : Ch} {Ln A B : List Ch} : Loan Ln A B → Loan Ln (c :: A) (c :: B)
  | again {α : Type} [Rp α] {v : Value} {xs : List α} {k : Nat} {Ln A B : List Ch} : Loan Ln A B → nth B k = some (Ch.ro 0 v xs) → Loan Ln A (Ch.ro 0 v xs :: B)

section
variable {P : Program} {n : Nat} {ρ : Nat → Value} {σ0 σ : St} {S0 : BS} {Ln A B R : List Ch}

theorem Loan.cov (h : Loan Ln A B) : ∀ b, Go.Vs.cov B b ↔ Go.Vs.cov A b := by
  induction h with
  | nil => intro b; exact Iff.rfl
  | lend _ ih => intro b; exact ⟨fun h => h.elim (fun h => h.elim) (ih b).1, fun h => .inr ((ih b).2 h)⟩
  | same _ ih => intro b; exact or_congr Iff.rfl (ih b)
  | again _ _ ih => intro b; exact ⟨fun h => h.elim (fun h => h.elim) (ih b).1, fun h => .inr ((ih b).2 h)⟩
theorem Loan.apart (h : Loan Ln A B) : Go.Vs.apart A → Go.Vs.apart B := by
  induction h with
  | nil => exact id
  | lend _ ih => exact fun h => ⟨fun _ h => h.elim, ih h⟩
  | same h0 ih => exact fun h => ⟨fun b hb hb' => h.1 b hb ((h0.cov b).1 hb'), ih h.2⟩
  | again _ _ ih => exact fun h => ⟨fun _ h => h.elim, ih h⟩

/-- Only what is published has turned. -/
structure Pb (S : BS) (σ σ' : St) : Prop where
  w : σ'.w = σ.w
  vis : ∀ b, ¬ S b → σ'.vis b = σ.vis b
  le : ∀ b, σ.vis b ≤ σ'.vis b
theorem Pb.md {S : BS} {σ σ' : St} (h : Pb S σ σ') : Md S σ σ' :=
  ⟨by rw [h.w], by rw [h.w], by rw [h.w], by rw [h.w]; exact Nat.le_refl _, ⟨by unfold St.size; rw [h.w]; exact Nat.le_refl _, fun b o _ => by unfold St.cell; rw [h.w], h.le⟩, fun b _ _ => by rw [h.w], fun b _ hn => h.vis b hn⟩
theorem Pb.trans {S S' : BS} {a b c : St} (h : Pb S a b) (k : Pb S' b c) : Pb (fun i => S i ∨ S' i) a c :=
  ⟨k.w.trans h.w, fun b hb => (k.vis b (fun e => hb (.inr e))).trans (h.vis b (fun e => hb (.inl e))), fun b => Nat.le_trans (h.le b) (k.le b)⟩
theorem Pb.mono {S S' : BS} {a b : St} (h : Pb S a b) (hs : ∀ i, S i → S' i) : Pb S' a b := ⟨h.w, fun b hb => h.vis b (fun e => hb (hs b e)), h.le⟩

theorem Ow.pb {α : Type} [Rp α] {el lo : Nat} {v : Value} {xs : List α} (h : Ow σ lo el v xs) : ∃ σ', Pb (fun b => blk v = some b) σ σ' ∧ RS 0 σ' v xs := by
  have hl := h.lt
  rcases h with ⟨rfl, rfl⟩ | ⟨b, o, c, C, T, rfl, h2, h3, h4, h5, h6, h7⟩
  · exact ⟨σ, ⟨rfl, fun _ _ => rfl, fun _ => Nat.le_refl _⟩, RS.nil⟩
  · have hb := hl b rfl
    have hE := St.pub_ext (σ := σ) (e := o + xs.length * Rp.sz α) hb
    refine ⟨σ.pub b (o + xs.length * Rp.sz α) hb, ⟨rfl, fun i hne => ?_, hE.vis⟩, .inr ⟨b, o, c, rfl, Nat.zero_le _, h4, ?_, fun i hi => ((h7 i hi).low (Nat.zero_le _)).same hE rfl⟩⟩
    · show (if i = b then _ else _) = _
      rw [if_neg (by intro e; subst e; exact hne rfl)]
    · show _ ≤ (if b = b then _ else _)
      rw [if_pos rfl]; omega

theorem Loan.pub (h : Loan Ln A B) : ∀ {σ : St}, allAs σ Ln → Go.Vs.apart Ln → allAs σ A → (∀ b, Go.Vs.cov A b → ¬ Go.Vs.cov Ln b) → ∃ σp, Pb (Go.Vs.cov Ln) σ σp ∧ allAs σp B := by
  induction h with
  | nil => intro σ _ _ _ _; exact ⟨σ, ⟨rfl, fun _ _ => rfl, fun _ => Nat.le_refl _⟩, trivial⟩
  | @lend α _ lo el v xs Ln A B hl ih =>
    rintro σ ⟨h1, h2⟩ ⟨h3, h4⟩ hA hd
    obtain ⟨σ1, p1, hR⟩ := Ow.pb (h1 : Ow σ lo el v xs)
    obtain ⟨σ2, p2, h5⟩ := ih (allAs_md h2 p1.md (fun b hb hb' => h3 b hb' hb)) h4 (allAs_md hA p1.md (fun b hb hb' => hd b hb (.inl hb'))) (fun b hb hb' => hd b hb (.inr hb'))
    exact ⟨σ2, (p1.trans p2).mono (fun b hb => hb), hR.ext p2.md.ext, h5⟩
  | @same c Ln A B hl ih =>
    rintro σ h1 h2 ⟨h3, h4⟩ hd
    obtain ⟨σp, p, h5⟩ := ih h1 h2 h4 (fun b hb => hd b (.inr hb))
    exact ⟨σp, p, c.hst p.md (fun b hb => hd b (.inl hb)) h3, h5⟩
  | again hl hk ih =>
    intro σ h1 h2 hA hd
    obtain ⟨σp, p, h5⟩ := ih h1 h2 hA hd
    exact ⟨σp, p, nth_all hk h5, h5⟩

/-- What is handed back does not hang on what was lent. -/
def Ab (m : Nat) (c : Ch) : Prop := ∀ σ σ' : St, σ'.w = σ.w → (∀ b, m ≤ b ∨ c.fp b → σ'.vis b = σ.vis b) → c.as σ → c.as σ'
def AllAb (m : Nat) : List Ch → Prop
  | [] => True
  | c :: l => Ab m c ∧ AllAb m l
theorem extL_of {m el : Nat} {σ σ' : St} (hw : σ'.w = σ.w) (hv : ∀ b, m ≤ b → σ'.vis b = σ.vis b) (h : m ≤ el) : ExtL el σ σ' :=
  ⟨fun b o _ _ => by unfold St.cell; rw [hw], fun b hb => Nat.le_of_eq (hv b (Nat.le_trans h hb)).symm⟩
theorem Ab.own {α : Type} [Rp α] {m lo el : Nat} {v : Value} {xs : List α} (h : m ≤ el) : Ab m (Ch.own lo el v xs) := by
  intro σ σ' hw hv hO
  rcases (hO : Ow σ lo el v xs) with hO | ⟨b, o, c, C, T, rfl, h2, h3, h4, h5, h6, h7⟩
  · exact .inl hO
  · refine .inr ⟨b, o, c, C, T, rfl, h2, by rw [hw]; exact h3, h4, h5, (hv b (.inr rfl)).trans h6, fun i hi => ?_⟩
    obtain ⟨cs, h8, h9⟩ := h7 i hi
    exact ⟨cs, Rp.extL (extL_of hw (fun b hb => hv b (.inl hb)) h) h8, fun j hj => by rw [← h9 j hj]; unfold St.cell; rw [hw]⟩
theorem Ab.ownSc {α : Type} [Rp α] [Sc α] {m lo el : Nat} {v : Value} {xs : List α} : Ab m (Ch.own lo el v xs) := by
  intro σ σ' hw hv hO
  exact (Ab.own (m := m) (el := m) (lo := lo) (v := v) (xs := xs) (Nat.le_refl m) σ σ' hw hv (Ow.sc (hO : Ow σ lo el v xs)) : Ow σ' lo m v xs).sc
theorem Ab.ro {α : Type} [Rp α] {m el : Nat} {v : Value} {xs : List α} (h : m ≤ el) : Ab m (Ch.ro el v xs) := by
  intro σ σ' hw hv hR
  exact RS.extL hR (extL_of hw (fun b hb => hv b (.inl hb)) h)
theorem Ab.bx {m lo b o : Nat} {cs pre suf : List Value} : Ab m (Ch.bx lo b o cs pre suf) := by
  rintro σ σ' hw hv ⟨⟨T, h1, h2⟩, h3⟩
  exact ⟨⟨T, by rw [hw]; exact h1, (hv b (.inr rfl)).trans h2⟩, h3⟩
theorem allAb_as {m : Nat} {σ σ' : St} (hw : σ'.w = σ.w) : ∀ {L : List Ch}, AllAb m L → (∀ b, m ≤ b ∨ Go.Vs.cov L b → σ'.vis b = σ.vis b) → allAs σ L → allAs σ' L
  | [], _, _, _ => trivial
  | c :: l, ⟨h1, h2⟩, hv, ⟨h3, h4⟩ => ⟨h1 σ σ' hw (fun b hb => hv b (hb.imp id .inl)) h3, allAb_as hw h2 (fun b hb => hv b (hb.imp id .inr)) h4⟩

open Classical in
theorem Cal2.lend {f : FuncId} {args : List Value} {post : Nat → Value → List Ch → Prop} (hl : Loan Ln A B) (hc : Cal2 P f args B post) (H : Hp S0 σ0 σ (Ln ++ (A ++ R))) (hab : ∀ m v L', post m v L' → AllAb m L') :
    Calls P f args.toArray σ.w fun e w' => ∃ v σ' L', e = .returned v ∧ w' = σ'.w ∧ post σ.size v L' ∧ Hp S0 σ0 σ' (L' ++ (Ln ++ R)) ∧ Md (cov A) σ σ' := by
  obtain ⟨a1, a23⟩ := allAs_append.1 H.all
  obtain ⟨a2, a3⟩ := allAs_append.1 a23
  obtain ⟨p1, p23, p4⟩ := apart_append.1 H.ap
  obtain ⟨p2, p3, p5⟩ := apart_append.1 p23
  have pA : ∀ b, cov A b → ¬ cov Ln b := fun b hb h => p4 b h (cov_append.2 (.inl hb))
  have pR : ∀ b, cov R b → ¬ cov Ln b := fun b hb h => p4 b h (cov_append.2 (.inr hb))
  obtain ⟨σp, pp, aB⟩ := hl.pub a1 p1 a2 pA
  have hsz : σp.size = σ.size := by unfold St.size; rw [pp.w]
  have Hb : Hp (cov B) σp σp B := Hp.begin aB (hl.apart p2)
  have hr := hc.runs σp σ.size (Nat.le_of_eq hsz.symm) Hb
  rw [pp.w] at hr
  refine hr.mono ?_
  rintro e w' ⟨v, σ2, L', rfl, rfl, hp, H'⟩
  have hcA := hl.cov
  have hle : σ.size ≤ σ2.size := hsz ▸ H'.md.size
  let σ3 : St := ⟨σ2.w, fun c => if cov Ln c then σ.vis c else σ2.vis c, fun b hb => by
    have : ¬ cov Ln b := fun h => absurd (Nat.lt_of_lt_of_le (allAs_lt a1 b h) hle) (Nat.not_lt.2 hb)
    rw [if_neg this]; exact σ2.ok b hb⟩
  have hv1 : ∀ b, cov Ln b → σ3.vis b = σ.vis b := fun b h => if_pos h
  have hv2 : ∀ b, ¬ cov Ln b → σ3.vis b = σ2.vis b := fun b h => if_neg h
  have m3 : Md (cov A) σ σ3 := by
    refine ⟨?_, ?_, ?_, ?_, ⟨hle, fun b o ho => ?_, fun b => ?_⟩, fun b hb hn => ?_, fun b hb hn => ?_⟩
    · exact H'.md.os.trans (by rw [pp.w])
    · exact H'.md.tape.trans (by rw [pp.w])
    · exact H'.md.output.trans (by rw [pp.w])
    · have := H'.md.dr; rw [pp.w] at this; exact this
    · have h1 : σ2.cell b o = σp.cell b o := H'.md.ext.cell b o (Nat.lt_of_lt_of_le ho (pp.le b))
      show σ2.cell b o = _
      rw [h1]; unfold St.cell; rw [pp.w]
    · by_cases h : cov Ln b
      · exact Nat.le_of_eq (hv1 b h).symm
      · rw [hv2 b h]; exact Nat.le_trans (pp.le b) (H'.md.ext.vis b)
    · have := H'.md.block b (by rw [hsz]; exact hb) (fun h => hn ((hcA b).1 h))
      rw [pp.w] at this; exact this
    · by_cases h : cov Ln b
      · exact hv1 b h
      · rw [hv2 b h, H'.md.vis b (by rw [hsz]; exact hb) (fun h => hn ((hcA b).1 h)), pp.vis b h]
  have horg : ∀ b, cov L' b → b < σ.size → cov A b := fun b hb hlt => (hcA b).1 (H'.org b hb (by rw [hsz]; exact hlt))
  have aL' : allAs σ3 L' := allAb_as (σ := σ2) (σ' := σ3) rfl (hab _ _ _ hp) (fun b hb => by
    refine hv2 b fun h => ?_
    have hlt := allAs_lt a1 b h
    rcases hb with hb | hb
    · omega
    · exact pA b (horg b hb hlt) h) H'.all
  refine ⟨v, σ3, L', rfl, rfl, hp, ⟨H.md.step m3 (fun i hi h => H.org i (cov_append.2 (.inr (cov_append.2 (.inl h)))) hi), allAs_append.2 ⟨aL', allAs_append.2 ⟨allAs_md a1 m3 (fun b hb h => pA b h hb), allAs_md a3 m3 (fun b hb h => p5 b h hb)⟩⟩,
    apart_append.2 ⟨H'.ap, apart_append.2 ⟨p1, p3, fun b hb h => pR b h hb⟩, fun b hb hb' => ?_⟩, fun b hb hlt => ?_⟩, m3⟩
  · rcases cov_append.1 hb' with h | h
    · exact pA b (horg b hb (allAs_lt a1 b h)) h
    · exact p5 b (horg b hb (allAs_lt a3 b h)) h
  · rcases cov_append.1 hb with hb | hb
    · exact H.org b (cov_append.2 (.inr (cov_append.2 (.inl (horg b hb (Nat.lt_of_lt_of_le hlt H.md.size)))))) hlt
    · rcases cov_append.1 hb with hb | hb
      · exact H.org b (cov_append.2 (.inl hb)) hlt
      · exact H.org b (cov_append.2 (.inr (cov_append.2 (.inr hb)))) hlt

theorem cx_lend {f : FuncId} {args : List Value} {post : Nat → Value → List Ch → Prop} {o : Oper} (hl : Loan Ln A B) (hc : Cal2 P f args B post) (he : Enters P n ρ o f args σ.w) (H : Hp S0 σ0 σ (Ln ++ (A ++ R))) (hab : ∀ m v L', post m v L' → AllAb m L') :
    Cx P σ n ρ o fun v σ' => ∃ L', post σ.size v L' ∧ Hp S0 σ0 σ' (L' ++ (Ln ++ R)) ∧ Md (cov A) σ σ' ∧ σ0.size ≤ σ.size :=
  ⟨f, args, he, (hc.lend hl H hab).mono (by rintro e w' ⟨v, σ', L', rfl, rfl, hp, H', m⟩; exact ⟨v, σ', rfl, rfl, L', hp, H', m, H.size⟩)⟩
end
end Go.Vs
