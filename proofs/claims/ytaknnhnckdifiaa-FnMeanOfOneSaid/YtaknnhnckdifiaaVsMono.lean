/- Regions that draw their order and whose operations only read, compute, make new memory and call: whatever the order, what they come to is the same. -/
import Derived.Test.YtaknnhnckdifiaaVsModel
import Derived.Orders
set_option linter.unusedVariables false
set_option linter.unusedSimpArgs false
namespace Go.Vs
open Go

def dstOf (ops : Array Oper) (j : Nat) : Option Nat := (ops[j]?).bind (·.dst)
def waits (o : Oper) (j : Nat) : Bool := o.after.toList.any fun e => Nat.beq e.on j && Region.binds .any e

/-- What an operation must do, in whatever world that has come of σ0. -/
def Does (P : Program) (ops : Array Oper) (N : Nat) (R : Nat → Value → St → Prop) (ρ : Nat → Value) (σ : St) (i : Nat) (o : Oper) : Prop :=
  (Region.wanted o (yv ops N ρ) = true ∧ ((∃ v σ', (execOp (ev N ρ) o).run P σ.w = .ok (.value v) σ'.w ∧ Mod none σ σ' ∧ R i v σ') ∨
      ∃ f args post, (execOp (ev N ρ) o).run P σ.w = .ok (.enter f (List.toArray args)) σ.w ∧ Cal P f args none σ post ∧ ∀ v σ', Mod none σ σ' → post v σ' → R i v σ')) ∨
  (Region.wanted o (yv ops N ρ) = false ∧ R i undef σ)

/-- Does operation j wait for operation i, by way of others too? -/
def reach (ops : Array Oper) : Nat → Nat → Nat → Bool
  | 0, _, _ => false
  | f + 1, j, i => match ops[j]? with
    | none => false
    | some o => waits o i || o.after.toList.any fun e => Region.binds .any e && reach ops f e.on i

/-- The bool that is asked of a region: the first n operations write different slots; those behind them wait for all of them and go one after the other. -/
def monoB (N : Nat) (ops : Array Oper) (n : Nat) : Bool :=
  Nat.ble n ops.size && ((List.range n).all fun i => (match dstOf ops i with | some d => Nat.blt d N | none => false) && (match ops[i]? with | some o => o.after.toList.all (fun e => !Region.binds .any e || Nat.blt e.on i) | none => false) && (List.range n).all fun j => Nat.beq i j || !(dstOf ops i == dstOf ops j)) &&
  ((List.range ops.size).all fun j => Nat.blt j n || (List.range n).all fun i => reach ops ops.size j i) &&
  Region.seqB .any ops (ops.size - n) n ((List.range ops.size).map (fun i => Nat.blt i n)).toArray

section
variable {P : Program} {ops : Array Oper} {Q : Exit → Act → World → Prop} {N n : Nat} {ρ0 : Nat → Value} {σ0 : St} {R : Nat → Value → St → Prop}

structure MInv (ops : Array Oper) (N n : Nat) (ρ0 : Nat → Value) (σ0 : St) (R : Nat → Value → St → Prop) (listed : Array Bool) (ρ : Nat → Value) (σ : St) : Prop where
  size : listed.size = ops.size
  md : Mod none σ0 σ
  off : ∀ t, (∀ i, i < n → dstOf ops i ≠ some t) → ρ t = ρ0 t
  rel : ∀ i, i < n → listed.getD i false = true → ∀ d, dstOf ops i = some d → R i (look N ρ d) σ
  low : ∀ i, n ≤ i → listed.getD i false = false
  closed : ∀ i o, listed.getD i false = true → ops[i]? = some o → ∀ j, waits o j = true → listed.getD j false = true

theorem reach_listed {listed : Array Bool} (hcl : ∀ i o, listed.getD i false = true → ops[i]? = some o → ∀ j, waits o j = true → listed.getD j false = true) {i : Nat} :
    ∀ (f j : Nat) (o : Oper), ops[j]? = some o → (∀ k, waits o k = true → listed.getD k false = true) → reach ops f j i = true → listed.getD i false = true := by
  intro f
  induction f with
  | zero => intro j o _ _ h; cases h
  | succ f ih =>
    intro j o ho hw h
    rw [reach, ho] at h
    simp only [Bool.or_eq_true] at h
    rcases h with h | h
    · exact hw i h
    · obtain ⟨e, he, h⟩ := List.any_eq_true.1 h
      simp only [Bool.and_eq_true] at h
      have h1 : waits o e.on = true := List.any_eq_true.2 ⟨e, he, by simp only [Bool.and_eq_true]; exact ⟨Nat.beq_refl _, h.1⟩⟩
      have h2 := hw _ h1
      cases f with
      | zero => cases h.2
      | succ f' =>
        cases ho' : ops[e.on]? with
        | none => have := h.2; rw [reach, ho'] at this; cases this
        | some o' => exact ih e.on o' ho' (fun k hk => hcl _ _ h2 ho' k hk) h.2

theorem listed_full {listed : Array Bool} (hs : listed.size = ops.size) (hlow : ∀ i, n ≤ i → listed.getD i false = false) (hall : ∀ i, i < n → listed.getD i false = true) :
    listed = ((List.range ops.size).map (fun i => Nat.blt i n)).toArray := by
  apply Array.ext_getElem?
  intro i
  by_cases hi : i < ops.size
  · have h1 : listed[i]? = some (listed.getD i false) := by simp [Array.getD, hs, hi]
    rw [h1]
    simp only [List.getElem?_toArray, List.getElem?_map]
    rw [List.getElem?_range hi]
    simp only [Option.map_some, Option.some.injEq]
    by_cases hn : i < n
    · rw [hall i hn, blt_t hn]
    · rw [hlow i (by omega), blt_f hn]
  · rw [Array.getElem?_eq_none (by omega)]
    simp [hi]

theorem countP_set {listed : Array Bool} {i n : Nat} (hi : i < n) (h0 : listed.getD i false = false) (hs : i < listed.size) :
    (List.range n).countP (fun j => !listed.getD j false) = (List.range n).countP (fun j => !(listed.setIfInBounds i true).getD j false) + 1 := by
  induction n with
  | zero => omega
  | succ n ih =>
    rw [List.range_succ, List.countP_append, List.countP_append]
    by_cases h : i = n
    · subst h
      have e1 : (List.range i).countP (fun j => !listed.getD j false) = (List.range i).countP (fun j => !(listed.setIfInBounds i true).getD j false) := by
        refine List.countP_congr fun j hj => ?_
        rw [getD_set_ne false (by have := List.mem_range.1 hj; omega)]
      have e2 : (listed.setIfInBounds i true).getD i false = true := by simp [Array.getD, hs]
      rw [e1]
      simp only [List.countP_cons, List.countP_nil, h0, e2]
      rfl
    · have := ih (by omega)
      have e : (listed.setIfInBounds i true).getD n false = listed.getD n false := getD_set_ne false h
      rw [this]
      simp only [List.countP_cons, List.countP_nil, e]
      omega

theorem wpAny_mono (hB : monoB N ops n = true) (hmono : ∀ i v σ σ', R i v σ → Mod none σ σ' → R i v σ')
    (hop : ∀ i o, i < n → ops[i]? = some o → ∀ ρ σ, Mod none σ0 σ → (∀ t, (∀ i, i < n → dstOf ops i ≠ some t) → ρ t = ρ0 t) →
      (∀ j, waits o j = true → j < n → ∀ d, dstOf ops j = some d → R j (look N ρ d) σ) → Does P ops N R ρ σ i o)
    (hk : ∀ ρ σ, Mod none σ0 σ → (∀ t, (∀ i, i < n → dstOf ops i ≠ some t) → ρ t = ρ0 t) → (∀ i, i < n → ∀ d, dstOf ops i = some d → R i (look N ρ d) σ) →
      wpList P ops Q (ops.toList.drop n) (fr N ρ) σ.w) :
    ∀ (fuel : Nat) (listed : Array Bool) (ρ : Nat → Value) (σ : St), MInv ops N n ρ0 σ0 R listed ρ σ → (List.range n).countP (fun i => !listed.getD i false) + (ops.size - n) = fuel →
      wpAny P .any ops Q fuel listed (fr N ρ) σ.w := by
  simp only [monoB, Bool.and_eq_true] at hB
  obtain ⟨⟨⟨hn, hd⟩, hw⟩, hseq⟩ := hB
  have hn := Nat.le_of_ble_eq_true hn
  have hdst : ∀ i, i < n → ∃ d, dstOf ops i = some d ∧ d < N := by
    intro i hi
    have := List.all_eq_true.1 hd i (List.mem_range.2 hi)
    simp only [Bool.and_eq_true] at this
    have h1 := this.1.1
    cases h : dstOf ops i with
    | none => rw [h] at h1; cases h1
    | some d =>
      rw [h] at h1
      refine ⟨d, rfl, Classical.byContradiction fun hc => ?_⟩
      simp only [blt_f hc] at h1; cases h1
  have hback : ∀ i o, i < n → ops[i]? = some o → ∀ e ∈ o.after.toList, Region.binds .any e = true → e.on < i := by
    intro i o hi ho e he hb
    have := List.all_eq_true.1 hd i (List.mem_range.2 hi)
    simp only [Bool.and_eq_true] at this
    have h1 := this.1.2
    rw [ho] at h1
    have := List.all_eq_true.1 h1 e he
    simp only [hb, Bool.not_true, Bool.false_or] at this
    refine Classical.byContradiction fun hc => ?_
    rw [blt_f hc] at this; cases this
  have hne : ∀ i j, i < n → j < n → i ≠ j → dstOf ops i ≠ dstOf ops j := by
    intro i j hi hj hij
    have := List.all_eq_true.1 hd i (List.mem_range.2 hi)
    simp only [Bool.and_eq_true] at this
    have := List.all_eq_true.1 this.2 j (List.mem_range.2 hj)
    simp only [beq_f hij, Bool.false_or, Bool.not_eq_true', beq_eq_false_iff_ne, ne_eq] at this
    exact this
  have hwait : ∀ j i o, n ≤ j → i < n → ops[j]? = some o → reach ops ops.size j i = true := by
    intro j i o hj hi ho
    have hlt := (Array.getElem?_eq_some_iff.1 ho).1
    have := List.all_eq_true.1 hw j (List.mem_range.2 hlt)
    rw [blt_f (by omega), Bool.false_or] at this
    exact List.all_eq_true.1 this i (List.mem_range.2 hi)
  intro fuel
  induction fuel with
  | zero =>
    intro listed ρ σ inv hf
    have hall : ∀ i, i < n → listed.getD i false = true := by
      intro i hi
      have h0 : (List.range n).countP (fun i => !listed.getD i false) = 0 := by omega
      have := List.countP_eq_zero.1 h0 i (List.mem_range.2 hi)
      simpa using this
    have hfull := listed_full inv.size inv.low hall
    have hnn : ops.size = n := by omega
    have hh := hk ρ σ inv.md inv.off (fun i hi d hd => inv.rel i hi (hall i hi) d hd)
    have hdr : ops.toList.drop n = [] := by rw [List.drop_eq_nil_iff]; simp; omega
    rw [hdr] at hh
    refine ⟨?_, hh⟩
    have : Region.seqB .any ops 0 n listed = true := by
      rw [hfull]
      have e : ops.size - n = 0 := by omega
      rw [e] at hseq; exact hseq
    simpa [Region.seqB] using this
  | succ fuel ih =>
    intro listed ρ σ inv hf
    by_cases hall : ∀ i, i < n → listed.getD i false = true
    · -- only the tail is left
      have hfull := listed_full inv.size inv.low hall
      have h0 : (List.range n).countP (fun i => !listed.getD i false) = 0 := by
        rw [List.countP_eq_zero]
        intro i hi
        simp [hall i (List.mem_range.1 hi)]
      have hh := hk ρ σ inv.md inv.off (fun i hi d hd => inv.rel i hi (hall i hi) d hd)
      have := wpAny_of_seq (md := .any) (Q' := Q) (P := P) (ops.toList.drop n) n listed (fr N ρ) σ.w (fun j => by simp [List.getElem?_drop]) (by
        rw [hfull, List.length_drop, Array.length_toList]; exact hseq) hh
      rw [List.length_drop, Array.length_toList] at this
      rw [show fuel + 1 = ops.size - n by omega]
      exact this
    · -- some operation of the head is still to come
      have hexists : ∃ i, i < n ∧ listed.getD i false = false := by
        refine Classical.byContradiction fun hc => hall fun i hi => ?_
        cases h : listed.getD i false with
        | true => rfl
        | false => exact absurd ⟨i, hi, h⟩ hc
      have step : ∀ i ∈ Region.ready .any ops listed, wpOp P ops Q i (wpAny P .any ops Q fuel (listed.setIfInBounds i true)) (fr N ρ) σ.w := by
        intro i hi
        obtain ⟨h1, o, ho, h2⟩ := mem_ready.1 hi
        have hlt := (Array.getElem?_eq_some_iff.1 ho).1
        have hwj : ∀ j, waits o j = true → listed.getD j false = true := by
          intro j hj
          obtain ⟨e, he, hb⟩ := List.any_eq_true.1 hj
          simp only [Bool.and_eq_true] at hb
          have := Nat.eq_of_beq_eq_true hb.1
          subst this
          exact h2 e (by simpa using he) hb.2
        have hin : i < n := by
          refine Classical.byContradiction fun hc => ?_
          obtain ⟨k, hk1, hk2⟩ := hexists
          have := reach_listed inv.closed _ i o ho hwj (hwait i k o (by omega) hk1 ho)
          rw [hk2] at this; cases this
        obtain ⟨d, hdi, hdN⟩ := hdst i hin
        have hod : o.dst = some d := by simpa [dstOf, ho] using hdi
        have hi0 : listed.getD i false = false := by
          have : i < listed.size := by rw [inv.size]; exact hlt
          simp only [Array.getD, this, dif_pos] at h1 ⊢
          exact h1
        have next : ∀ v (σ' : St), Mod none σ σ' → R i v σ' → wpAny P .any ops Q fuel (listed.setIfInBounds i true) (fr N (upd ρ d v)) σ'.w := by
          intro v σ' hm hR
          refine ih _ _ _ ⟨by simp [inv.size], inv.md.trans hm, ?_, ?_, ?_, ?_⟩ ?_
          · intro t ht
            have : t ≠ d := fun e => ht i hin (e ▸ hdi)
            show (bif Nat.beq t d then v else ρ t) = _
            rw [beq_f this]
            exact inv.off t ht
          · intro j hj hl d' hd'
            by_cases hij : i = j
            · subst hij
              rw [hdi] at hd'; cases hd'
              have : look N (upd ρ d v) d = v := by
                rw [look_lt _ hdN]; show (bif Nat.beq d d then v else _) = v; rw [beq_t]; rfl
              rw [this]
              exact hR
            · rw [getD_set_ne false hij] at hl
              have hne' : d' ≠ d := fun e => hne i j hin hj hij (by rw [hdi, hd', e])
              have : look N (upd ρ d v) d' = look N ρ d' := by
                unfold look
                have : upd ρ d v d' = ρ d' := by show (bif Nat.beq d' d then v else ρ d') = _; rw [beq_f hne']; rfl
                rw [this]
              rw [this]
              exact hmono _ _ _ _ (inv.rel j hj hl d' hd') hm
          · intro j hj
            rw [getD_set_ne false (by omega)]
            exact inv.low j hj
          · intro j oj hj hoj k hk
            by_cases hij : i = j
            · subst hij
              rw [ho] at hoj; cases hoj
              exact getD_set_true (hwj k hk)
            · rw [getD_set_ne false hij] at hj
              exact getD_set_true (inv.closed j oj hj hoj k hk)
          · have := countP_set (listed := listed) (i := i) (n := n) hin hi0 (by rw [inv.size]; exact hlt)
            omega
        have hdo := hop i o hin ho ρ σ inv.md inv.off (fun j hj hjn d hd => inv.rel j hjn (hwj j hj) d hd)
        unfold wpOp
        rw [ho]
        simp only [yielded_fr]
        rcases hdo with ⟨hwant, hrun⟩ | ⟨hwant, hR⟩
        · rw [if_pos hwant]
          refine .inl ?_
          unfold Oper.wp
          rw [fr_eval]
          rcases hrun with ⟨v, σ', hr, hm, hR⟩ | ⟨f, args, post, hr, hc, hp⟩
          · rw [hr, Oper.upon_value, hod, fr_put]
            exact next v σ' hm hR
          · rw [hr, Oper.upon_enter]
            refine hc.runs.mono ?_
            rintro e w' ⟨v, σ', rfl, rfl, hm, hpost⟩
            simp only [hod, fr_put]
            exact next v σ' hm (hp v σ' hm hpost)
        · rw [hwant, if_neg (by simp), hod, fr_put]
          exact next undef σ (Mod.refl _ _) hR
      refine ⟨fun hemp => ?_, step⟩
      exfalso
      obtain ⟨m, ⟨hm1, hm2⟩, hmin⟩ := exists_least (p := fun i => i < n ∧ listed.getD i false = false) hexists
      obtain ⟨o, ho⟩ : ∃ o, ops[m]? = some o := by
        rw [Array.getElem?_eq_getElem (by omega)]; exact ⟨_, rfl⟩
      have hms : m < listed.size := by rw [inv.size]; omega
      have : m ∈ Region.ready .any ops listed := by
        refine mem_ready.2 ⟨?_, o, ho, fun e he hb => ?_⟩
        · simp only [Array.getD, hms, dif_pos] at hm2 ⊢; exact hm2
        · have hlt := hback m o hm1 ho e (by simpa using he) hb
          cases hx : listed.getD e.on false with
          | true => rfl
          | false =>
            have := hmin e.on ⟨by omega, hx⟩
            omega
      rw [hemp] at this; cases this

/-- A region that draws its order: its first n operations in any order, those behind them at the end. -/
theorem rg_mono {id : Nat} {l : List Oper} {ρ0 : Nat → Value} {σ : St} (n : Nat) (R : Nat → Value → St → Prop) (hm : P.follows .mixedOrders = true) (hB : monoB N l.toArray n = true)
    (hmono : ∀ i v σ σ', R i v σ → Mod none σ σ' → R i v σ')
    (hop : ∀ i o, i < n → l[i]? = some o → ∀ ρ σ', Mod none σ σ' → (∀ t, (∀ i, i < n → dstOf l.toArray i ≠ some t) → ρ t = ρ0 t) →
      (∀ j, waits o j = true → j < n → ∀ d, dstOf l.toArray j = some d → R j (look N ρ d) σ') → Does P l.toArray N R ρ σ' i o)
    (hk : ∀ ρ σ', Mod none σ σ' → (∀ t, (∀ i, i < n → dstOf l.toArray i ≠ some t) → ρ t = ρ0 t) → (∀ i, i < n → ∀ d, dstOf l.toArray i = some d → R i (look N ρ d) σ') →
      wpList P l.toArray Q (l.drop n) (fr N ρ) σ'.w) : (Code.region id l.toArray true).wp P Q (fr N ρ0) σ.w := by
  refine wp_region_any hm ?_
  let σ1 : St := ⟨{ σ.w with drawn := σ.w.drawn + 1 }, σ.vis, σ.ok⟩
  have m1 : Mod none σ σ1 := ⟨rfl, rfl, rfl, ⟨Nat.le_refl _, fun _ _ _ => rfl, fun _ => Nat.le_refl _⟩, ⟨fun _ _ _ => rfl, fun _ _ _ => rfl⟩⟩
  have hnl : n ≤ l.length := by
    simp only [monoB, Bool.and_eq_true] at hB
    simpa using Nat.le_of_ble_eq_true hB.1.1.1
  refine wpAny_mono (σ0 := σ1) (ρ0 := ρ0) (R := R) hB hmono (fun i o hi ho ρ σ' hσ hoff hdep => hop i o hi (by simpa using ho) ρ σ' (m1.trans hσ) hoff hdep)
    (fun ρ σ' hσ hoff hrel => by simpa using hk ρ σ' (m1.trans hσ) hoff hrel) _ _ ρ0 σ1 ⟨by simp, Mod.refl _ _, fun _ _ => rfl, fun i _ h => (by rw [getD_replicate_false] at h; exact absurd h (by decide)), fun i _ => getD_replicate_false _ _, fun i _ h => (by rw [getD_replicate_false] at h; exact absurd h (by decide))⟩ ?_
  have : (List.range n).countP (fun i => !(Array.replicate l.toArray.size false).getD i false) = n := by
    rw [List.countP_eq_length.2]
    · simp
    · intro i _; rw [getD_replicate_false]; rfl
  rw [this]
  simp; omega
end

/-! ## What the walk says of each operation -/
def AllOps (F : Nat → Oper → Prop) : Nat → Nat → List Oper → Prop
  | 0, _, _ => True
  | _ + 1, _, [] => True
  | n + 1, k, o :: r => F k o ∧ AllOps F n (k + 1) r
theorem all_nil {F : Nat → Oper → Prop} {k : Nat} {l : List Oper} : AllOps F 0 k l := trivial
theorem all_cons {F : Nat → Oper → Prop} {n k : Nat} {o : Oper} {r : List Oper} (h : F k o) (t : AllOps F n (k + 1) r) : AllOps F (n + 1) k (o :: r) := ⟨h, t⟩
theorem all_ops {F : Nat → Oper → Prop} : ∀ (n k : Nat) (l : List Oper), AllOps F n k l → ∀ i o, i < n → l[i]? = some o → F (k + i) o
  | 0, _, _, _, _, _, hi, _ => by omega
  | _ + 1, _, [], _, _, _, _, ho => by simp at ho
  | n + 1, k, o :: r, ⟨h, t⟩, i, o', hi, ho => by
    cases i with
    | zero => simp at ho; subst ho; exact h
    | succ i =>
      have := all_ops n (k + 1) r t i o' (by omega) (by simpa using ho)
      rw [show k + (i + 1) = k + 1 + i by omega]; exact this
def Rl (l : List (Value → St → Prop)) (i : Nat) (v : Value) (σ : St) : Prop := (l.getD i (fun _ _ => True)) v σ
def eqv (u : Value) : Value → St → Prop := fun v _ => v = u
def MonoP (p : Value → St → Prop) : Prop := ∀ v σ σ', p v σ → Mod none σ σ' → p v σ'
theorem mono_eqv {u : Value} : MonoP (eqv u) := fun _ _ _ h _ => h
def AllMono : List (Value → St → Prop) → Prop
  | [] => True
  | p :: r => MonoP p ∧ AllMono r
theorem mono_nil : AllMono [] := trivial
theorem mono_cons {p : Value → St → Prop} {r : List (Value → St → Prop)} (h : MonoP p) (t : AllMono r) : AllMono (p :: r) := ⟨h, t⟩
theorem mono_rl : ∀ {l : List (Value → St → Prop)}, AllMono l → ∀ i v σ σ', Rl l i v σ → Mod none σ σ' → Rl l i v σ'
  | [], _, _, _, _, _, _, _ => trivial
  | p :: r, ⟨h, t⟩, 0, v, σ, σ', hr, m => h v σ σ' hr m
  | p :: r, ⟨h, t⟩, i + 1, v, σ, σ', hr, m => mono_rl t i v σ σ' hr m
def offB (ops : Array Oper) (n t : Nat) : Bool := (List.range n).all fun i => !(dstOf ops i == some t)
theorem off_of {ops : Array Oper} {n t : Nat} (h : offB ops n t = true) : ∀ i, i < n → dstOf ops i ≠ some t := by
  intro i hi
  have := List.all_eq_true.1 h i (List.mem_range.2 hi)
  simpa using this
theorem yv_undef {ops : Array Oper} {N j d : Nat} {ρ : Nat → Value} (hd : dstOf ops j = some d) (h : look N ρ d = undef) : yv ops N ρ j = none := by
  unfold yv
  rw [show (ops[j]?).bind (·.dst) = some d from hd]
  simp only [h]; rfl
theorem look_off {N t : Nat} {ρ ρ0 : Nat → Value} {v : Value} (h : ρ t = ρ0 t) (hv : look N ρ0 t = v) : look N ρ t = v := by
  rw [← hv]; unfold look; rw [h]
theorem yv_of {ops : Array Oper} {N j d : Nat} {ρ : Nat → Value} {b : Bool} (hd : dstOf ops j = some d) (h : look N ρ d = B b) : yv ops N ρ j = some b := by
  unfold yv
  rw [show (ops[j]?).bind (·.dst) = some d from hd]
  simp only [h]

section
variable {P : Program} {ops : Array Oper} {Q : Exit → Act → World → Prop} {N n : Nat} {ρ ρ0 : Nat → Value} {σ : St} {R : Nat → Value → St → Prop} {i : Nat} {o : Oper} {v : Value}
theorem does_v (hw : Region.wanted o (yv ops N ρ) = true) (hr : RunV P σ.w.heap N ρ o v) (hR : R i v σ) : Does P ops N R ρ σ i o :=
  .inl ⟨hw, .inl ⟨v, σ, hr σ.w rfl, Mod.refl _ _, hR⟩⟩
theorem does_buildSlice {el : Nat} {α : Type} [Rp α] {xs : List α} {len : Nat} {parts : Array (Nat × Operand)} {ps : List (Nat × Value)} {cs : List Value} {T E : TypeId} {z : Value} {s bt lo : Nat} {dst : Option Nat} {ty : TypeId} {pos : String} {af : Array Edge} {gd : Option (Nat × Bool)}
    (hw : Region.wanted ⟨dst, .buildSlice T len parts, ty, pos, af, gd⟩ (yv ops N ρ) = true) (hT : P.underlying T = some (.slice E)) (hi : TI P E z s bt)
    (hbig : Nat.ble (len * s) 16777216 = true) (hp : parts.toList.map (fun p => (p.1, ev N ρ p.2)) = ps)
    (hfill : Instr.fill (fun i => some (i * s, s)) ((Array.range (len * s)).map (fun k => (if len * s = 0 then #[] else z.cells)[k % (if len * s = 0 then #[] else z.cells).size]!)) ps = some cs.toArray)
    (hf : Flat el σ cs xs) (hl : xs.length = len) (hlo : lo ≤ σ.size) (hR : ∀ (b : Nat) (σ' : St), Mod none σ σ' → Ow σ' lo el (Sl (some ⟨b, 0, none⟩) xs len) xs → R i (Sl (some ⟨b, 0, none⟩) xs len) σ') :
    Does P ops N R ρ σ i ⟨dst, .buildSlice T len parts, ty, pos, af, gd⟩ := by
  obtain ⟨b, σ', hb, hr, hm, hO⟩ := run_buildSlice (dst := dst) (ty := ty) (pos := pos) (af := af) (gd := gd) hT hi hbig hp hfill hf hl hlo
  exact .inl ⟨hw, .inl ⟨_, σ', hr, hm, hR b σ' hm hO⟩⟩
theorem does_buildSliceP {el : Nat} {α : Type} [Rp α] {xs : List α} {len : Nat} {parts : Array (Nat × Operand)} {ps : List (Nat × Value)} {cs : List Value} {T E : TypeId} {z : Value} {s bt : Nat} {dst : Option Nat} {ty : TypeId} {pos : String} {af : Array Edge} {gd : Option (Nat × Bool)}
    (hw : Region.wanted ⟨dst, .buildSlice T len parts, ty, pos, af, gd⟩ (yv ops N ρ) = true) (hT : P.underlying T = some (.slice E)) (hi : TI P E z s bt)
    (hbig : Nat.ble (len * s) 16777216 = true) (hp : parts.toList.map (fun p => (p.1, ev N ρ p.2)) = ps)
    (hfill : Instr.fill (fun i => some (i * s, s)) ((Array.range (len * s)).map (fun k => (if len * s = 0 then #[] else z.cells)[k % (if len * s = 0 then #[] else z.cells).size]!)) ps = some cs.toArray)
    (hf : Flat el σ cs xs) (hl : xs.length = len) (hel : el ≤ σ.size) (hR : ∀ (b : Nat) (σ' : St), Mod none σ σ' → RS el σ' (Sl (some ⟨b, 0, none⟩) xs len) xs → R i (Sl (some ⟨b, 0, none⟩) xs len) σ') :
    Does P ops N R ρ σ i ⟨dst, .buildSlice T len parts, ty, pos, af, gd⟩ := by
  obtain ⟨b, σ', hb, hr, hm, hO⟩ := run_buildSlice (lo := σ.size) (dst := dst) (ty := ty) (pos := pos) (af := af) (gd := gd) hT hi hbig hp hfill hf hl (Nat.le_refl _)
  obtain ⟨σ2, hw2, m2, hRS⟩ := hO.pub' hel
  rw [← hw2] at hr
  have hm2 : Mod none σ σ2 := Mod.own (v := Sl (some ⟨b, 0, none⟩) xs len) hm m2 hO.ge
  exact .inl ⟨hw, .inl ⟨_, σ2, hr, hm2, hR b σ2 hm2 hRS⟩⟩
theorem does_skip (hw : Region.wanted o (yv ops N ρ) = false) (hR : R i undef σ) : Does P ops N R ρ σ i o := .inr ⟨hw, hR⟩
theorem does_call {f : FuncId} {args : List Value} {xs : Array Operand} {Ts : Array TypeId} {post : Value → St → Prop} {d : Option Nat} {ty : TypeId} {pos : String} {af : Array Edge} {gd : Option (Nat × Bool)}
    (hw : Region.wanted ⟨d, .call ⟨.value (.func f), xs, Ts⟩, ty, pos, af, gd⟩ (yv ops N ρ) = true) (hc : Cal P f args none σ post) (hx : xs.toList.map (ev N ρ) = args)
    (hp : ∀ v σ', Mod none σ σ' → post v σ' → R i v σ') : Does P ops N R ρ σ i ⟨d, .call ⟨.value (.func f), xs, Ts⟩, ty, pos, af, gd⟩ :=
  .inl ⟨hw, .inr ⟨f, args, post, run_call hc.fn hx, hc, hp⟩⟩

theorem rg_monoL {id : Nat} {l : List Oper} (n : Nat) (Rs : List (Value → St → Prop)) (hm : P.follows .mixedOrders = true) (hB : monoB N l.toArray n = true)
    (hmono : AllMono Rs)
    (hop : AllOps (fun i o => ∀ ρ σ', Mod none σ σ' → (∀ t, offB l.toArray n t = true → ρ t = ρ0 t) →
      (∀ j, waits o j = true → Nat.blt j n = true → ∀ d, dstOf l.toArray j = some d → Rl Rs j (look N ρ d) σ') → Does P l.toArray N (Rl Rs) ρ σ' i o) n 0 l)
    (hk : ∀ ρ σ', Mod none σ σ' → (∀ t, offB l.toArray n t = true → ρ t = ρ0 t) → (∀ i, Nat.blt i n = true → ∀ d, dstOf l.toArray i = some d → Rl Rs i (look N ρ d) σ') →
      wpList P l.toArray Q (l.drop n) (fr N ρ) σ'.w) : (Code.region id l.toArray true).wp P Q (fr N ρ0) σ.w := by
  refine rg_mono n (Rl Rs) hm hB (mono_rl hmono) ?_ ?_
  · intro i o hi ho ρ σ' m hoff hdep
    have := all_ops n 0 l hop i o hi ho ρ σ' m (fun t ht => hoff t (off_of ht)) (fun j hj hjn d hd => hdep j hj (by
      refine Classical.byContradiction fun hc => ?_
      rw [blt_f hc] at hjn; cases hjn) d hd)
    rw [Nat.zero_add] at this
    exact this
  · intro ρ σ' m hoff hrel
    refine hk ρ σ' m (fun t ht => hoff t (off_of ht)) (fun i hi d hd => hrel i (by
      refine Classical.byContradiction fun hc => ?_
      rw [blt_f hc] at hi; cases hi) d hd)

/-- A frame that looks like this. -/
theorem fr_look {L : List (Nat × Value)} (h : ∀ p ∈ L, look N ρ p.1 = p.2) : fr N ρ = fr N (updL ρ L) := by
  refine fr_ext fun t ht => ?_
  induction L with
  | nil => rfl
  | cons p r ih =>
    have h1 := h p (by simp)
    rw [updL]
    by_cases e : t = p.1
    · subst e; rw [beq_t, ← h1, look_lt _ ht]; rfl
    · rw [beq_f e]; exact ih (fun q hq => h q (by simp [hq]))
def agreeL (N : Nat) (ρ : Nat → Value) : List (Nat × Value) → Prop
  | [] => True
  | (d, v) :: r => look N ρ d = v ∧ agreeL N ρ r
theorem fr_lookL {L : List (Nat × Value)} (h : agreeL N ρ L) : fr N ρ = fr N (updL ρ L) := by
  refine fr_look ?_
  induction L with
  | nil => intro p hp; simp at hp
  | cons q r ih =>
    intro p hp
    rcases List.mem_cons.1 hp with rfl | hp
    · exact h.1
    · exact ih h.2 p hp

theorem RS.hmod {el : Nat} {α : Type} [Rp α] {σ σ' : St} {S : Option Nat} {v u : Value} {xs : List α} {a : Int} {e : α} {b o : Nat} (h : RS el σ v xs) (hg : gidx xs a = some e) (hi : Ix v a (Rp.sz α) b o) {k : Nat} (hk : k < Rp.sz α)
    (hc : HCell σ.w.heap b (o + k) = some u) (m : Mod S σ σ') : HCell σ'.w.heap b (o + k) = some u := by
  obtain ⟨h0, h1, h2⟩ := gidx_some hg
  obtain ⟨ob, mm, c, rfl, g0, g1, rfl⟩ := hi.it
  rcases h with ⟨_, rfl⟩ | ⟨b, o, c, hv, _, hcap, hvis, hA⟩
  · simp at h1
  · cases hv
    have : (a.toNat + 1) * Rp.sz α ≤ xs.length * Rp.sz α := Nat.mul_le_mul_right _ h1
    rw [Nat.add_mul] at this
    rw [HCell_eq] at hc ⊢
    rw [← hc]
    exact m.ext.cell b _ (by omega)
end

theorem Ow.hmod {el : Nat} {α : Type} [Rp α] {σ σ' : St} {lo : Nat} {v u : Value} {xs : List α} {a : Int} {e : α} {b o : Nat} (h : Ow σ lo el v xs) (_hg : gidx xs a = some e) (hi : Ix v a (Rp.sz α) b o) {k : Nat} (_hk : k < Rp.sz α)
    (hc : HCell σ.w.heap b (o + k) = some u) (m : Mod none σ σ') : HCell σ'.w.heap b (o + k) = some u := by
  obtain ⟨ob, mm, c, rfl, g0, g1, rfl⟩ := hi.it
  rcases h with ⟨hv, rfl⟩ | ⟨b, o, c, C, T, hv, h2, h3, h4, h5, h6, h7⟩
  · cases hv
  · cases hv
    have hb := m.oth.block b (lt_of_block h3) (by simp)
    unfold HCell at hc ⊢
    rw [hb]; exact hc
theorem RS.arr_mod {el : Nat} {σ σ' : St} {S : Option Nat} {b o c : Nat} {zs : List Int} (h : RS el σ (Sl (some ⟨b, o, none⟩) zs c) zs) (hc : ∀ j, (hj : j < zs.length) → HCell σ.w.heap b (o + j) = some (I zs[j])) (m : Mod S σ σ') :
    ∀ j, (hj : j < zs.length) → HCell σ'.w.heap b (o + j) = some (I zs[j]) := by
  intro j hj
  rcases h with ⟨_, rfl⟩ | ⟨b, o, c, hv, _, hcap, hvis, hA⟩
  · simp at hj
  · cases hv
    rw [← hc j hj, HCell_eq, HCell_eq]
    exact m.ext.cell b _ (by have : Rp.sz Int = 1 := rfl; rw [this] at hvis; omega)
theorem bx_arr {el : Nat} {σ : St} {b lo k : Nat} {xs : List Int} (h : Bx σ b (xs.map I)) (hl : lo ≤ b) (hx : xs.length = k) : Ow σ lo el (Sl (some ⟨b, 0, none⟩) xs k) xs := by
  have := h.ow (flat_ints (el := el) xs) hl
  rw [hx] at this; exact this
section
variable {P : Program} {H : Array Obj} {n : Nat} {ρ : Nat → Value} {d : Option Nat} {ty T : TypeId} {pos : String} {af : Array Edge} {gd : Option (Nat × Bool)}
theorem rv_build {fs : Array Field} {parts : Array (Nat × Operand)} {ps : List (Nat × Value)} {cs : Array Value} {z : Value} {s bt : Nat} {places : Array (Nat × Nat)} (hT : P.underlying T = some (.struct fs)) (hi : TI P T z s bt)
    (hpl : ∀ w, (fs.mapM (fun f => do pure (f.offset, ← sizeOf f.type)) : Sem (Array (Nat × Nat))).run P w = .ok places w) (hp : parts.toList.map (fun p => (p.1, ev n ρ p.2)) = ps)
    (hfill : Instr.fill (places[·]?) z.cells ps = some cs) : RunV P H n ρ ⟨d, .build T parts, ty, pos, af, gd⟩ (.agg cs) := fun w _ => by
  have hpp : (parts.map fun (i, x) => (i, ev n ρ x)) = ps.toArray := by rw [← hp, ← Array.toList_map]
  simp only [execOp, hpp, Instr.build, underlying, hT, run_zero hi, Sem.run_bind, run_program, Result.andThen_ok, Sem.run_pure, hpl, hfill]
theorem rv_idx {E m : Nat} {xs : List Int} {x y : Operand} {a e : Int} {z : Value} {bt : Nat} (hT : P.underlying T = some (.array m E)) (hi : TI P E z 1 bt) (hE : P.underlying E = some (.int .i64))
    (hx : ev n ρ x = .agg (xs.map I).toArray) (hy : ev n ρ y = I a) (hg : gidx xs a = some e) (hl : xs.length = m) : RunV P H n ρ ⟨d, .index T x y, ty, pos, af, gd⟩ (I e) := by
  obtain ⟨h0, h1, h2⟩ := gidx_some hg
  exact rv_index_arr hT hi hE hx hy h0 (by omega) (by rw [List.getElem?_eq_getElem h1, h2])
theorem rv_slice_arrL {E bl k : Nat} {z : Value} {s bt : Nat} {x : Operand} {xs : List Int} (hT : P.underlying T = some (.array k E)) (hi : TI P E z s bt) (hk : 0 < k) (hx : ev n ρ x = pt bl 0) (hl : xs.length = k) :
    RunV P H n ρ ⟨d, .slice T x none none none, ty, pos, af, gd⟩ (Sl (some ⟨bl, 0, none⟩) xs k) := by
  have := rv_slice_arr (P := P) (H := H) (dst := d) (ty := ty) (pos := pos) (af := af) (gd := gd) hT hi hk hx
  unfold Sl; rw [hl]; exact this
theorem results_cell {fn : Func} {t T : Nat} {D : TypeDesc} {cs : List Value} {z : Value} {s bt b : Nat} {σ : St} (h : fn.results = #[.cell t T]) (hT : P.underlying T = some D) (hD : (match D with | .struct _ => false | .array _ _ => false | _ => true) = false)
    (hi : TI P T z s bt) (hl : look n ρ t = pt b 0) (hlen : cs.length = s) (hB : Bx σ b cs) : (results fn (fr n ρ).tmps).run P σ.w = .ok (.agg cs.toArray) σ.w := by
  have hag : (isAgg T).run P σ.w = .ok true σ.w := by
    simp only [isAgg, underlying, Sem.run_bind, run_program, Result.andThen_ok, hT, Sem.run_pure]
    cases D <;> simp_all
  have hld := run_loadCellsFrom (P := P) σ.w b 0 s 0 cs [] hlen (fun j hj => by rw [← HCell_eq]; simpa using hB.all j hj)
  have h1 : (fr n ρ).tmps[t]?.getD undef = pt b 0 := by have := look_eq n ρ t; rw [hl] at this; simpa using this
  simp [results, h, h1, asAddr, loadVar, hag, run_typeInfo hi, loadCells, hld]
theorem results_cell_tmp {fn : Func} {t u T : Nat} {v : Value} {D : TypeDesc} {cs : List Value} {z : Value} {s bt b : Nat} {σ : St} (h : fn.results = #[.cell t T, .tmp u]) (hT : P.underlying T = some D) (hD : (match D with | .struct _ => false | .array _ _ => false | _ => true) = false)
    (hi : TI P T z s bt) (hl : look n ρ t = pt b 0) (hu : look n ρ u = v) (hlen : cs.length = s) (hB : Bx σ b cs) : (results fn (fr n ρ).tmps).run P σ.w = .ok (.tuple #[.agg cs.toArray, v]) σ.w := by
  have hag : (isAgg T).run P σ.w = .ok true σ.w := by
    simp only [isAgg, underlying, Sem.run_bind, run_program, Result.andThen_ok, hT, Sem.run_pure]
    cases D <;> simp_all
  have hld := run_loadCellsFrom (P := P) σ.w b 0 s 0 cs [] hlen (fun j hj => by rw [← HCell_eq]; simpa using hB.all j hj)
  have h1 : (fr n ρ).tmps[t]?.getD undef = pt b 0 := by have := look_eq n ρ t; rw [hl] at this; simpa using this
  have h2 : (fr n ρ).tmps[u]?.getD undef = v := by have := look_eq n ρ u; rw [hu] at this; simpa using this
  simp [results, h, h1, h2, asAddr, loadVar, hag, run_typeInfo hi, loadCells, hld]
theorem results_fr3 {fn : Func} {t u s : Nat} {v v' v2 : Value} (h : fn.results = #[.tmp t, .tmp u, .tmp s]) (hl : look n ρ t = v) (hl' : look n ρ u = v') (hl2 : look n ρ s = v2) (w : World) : (results fn (fr n ρ).tmps).run P w = .ok (.tuple #[v, v', v2]) w := by
  have h1 : (fr n ρ).tmps[t]?.getD undef = v := by have := look_eq n ρ t; rw [hl] at this; simpa using this
  have h2 : (fr n ρ).tmps[u]?.getD undef = v' := by have := look_eq n ρ u; rw [hl'] at this; simpa using this
  have h3 : (fr n ρ).tmps[s]?.getD undef = v2 := by have := look_eq n ρ s; rw [hl2] at this; simpa using this
  simp [results, h, h1, h2, h3]
theorem results_fr0 {fn : Func} (h : fn.results = #[]) (w : World) : (results fn (fr n ρ).tmps).run P w = .ok (.tuple #[]) w := results_none h _ _ _
end

theorem sl_len {α β : Type} {a : Option Addr} {xs : List α} {ys : List β} {c : Nat} (h : xs.length = ys.length) : Sl a xs c = Sl a ys c := by unfold Sl; rw [h]
theorem Ow.relen {el : Nat} {α : Type} [Rp α] {σ : St} {lo : Nat} {a : Option Addr} {c : Nat} {ys xs : List α} (h : Ow σ lo el (Sl a ys c) xs) (e : ys.length = xs.length) : Ow σ lo el (Sl a xs c) xs := by
  rw [← sl_len e]; exact h

/-- A slice that a call makes is published as soon as it is made. -/
theorem Cal.pub1 {P : Program} {f : FuncId} {args : List Value} {σ : St} {el : Nat} {α : Type} [Rp α] {xs : List α} (hel : el ≤ σ.size) (h : Cal P f args none σ (fun v σ' => ∃ (a : Option Addr) (c : Nat), v = Sl a xs c ∧ Ow σ' σ.size el (Sl a xs c) xs)) :
    Cal P f args none σ (fun v σ' => ∃ (a : Option Addr) (c : Nat), v = Sl a xs c ∧ RS el σ' (Sl a xs c) xs) := by
  refine ⟨h.fn, h.runs.mono ?_⟩
  rintro e w' ⟨v, σ', rfl, rfl, m, a, c, rfl, hO⟩
  obtain ⟨σ2, hw, m2, hR⟩ := hO.pub' hel
  exact ⟨_, σ2, rfl, hw.symm, Mod.own (v := Sl a xs c) m m2 hO.ge, a, c, rfl, hR⟩
end Go.Vs
