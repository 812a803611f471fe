/- Regions that draw their order: some operations only compute and read, others turn the memory; the states between those are written down, and each operation is walked in each state in which it may come up. -/
import Derived.Test.YtcgkbgidfilodaaVtOps
import Derived.Orders
set_option linter.unusedVariables false
set_option linter.unusedSimpArgs false
namespace Go.Vs
open Go

def dstOf (ops : Array Oper) (j : Nat) : Option Nat := (ops[j]?).bind (·.dst)
def waits (o : Oper) (j : Nat) : Bool := o.after.toList.any fun e => Nat.beq e.on j && Region.binds .any e
/-- Does operation j wait for operation i, by way of others too? -/
def reach (ops : Array Oper) : Nat → Nat → Nat → Bool
  | 0, _, _ => false
  | f + 1, j, i => match ops[j]? with
    | none => false
    | some o => waits o i || o.after.toList.any fun e => Region.binds .any e && reach ops f e.on i
def ph (E : List Nat) (listed : Array Bool) : List Bool := E.map fun e => listed.getD e false
def stepPh (E : List Nat) (i : Nat) (p : List Bool) : List Bool := List.zipWith (fun e b => b || Nat.beq e i) E p
/-- May operation i come up in this state? -/
def mayB (ops : Array Oper) (E : List Nat) (i : Nat) (p : List Bool) : Bool :=
  (List.zip E p).all fun (e, b) => (!reach ops ops.size i e || b) && (!reach ops ops.size e i || !b) && (!Nat.beq e i || !b)
def befB (ops : Array Oper) (n i j : Nat) : Bool := Nat.blt j n && !Nat.beq j i && !reach ops ops.size j i

/-- What is asked of a region. -/
def rgB (N : Nat) (ops : Array Oper) (n : Nat) (E : List Nat) (Ps : List (List Bool)) (Al : List (List (Nat × Nat))) (kend : Nat) : Bool :=
  Nat.ble n ops.size && ((List.range n).all fun i => (match dstOf ops i with | some d => Nat.blt d N | none => true) && (match ops[i]? with | some o => o.after.toList.all (fun e => !Region.binds .any e || Nat.blt e.on i) | none => false) &&
    (List.range n).all fun j => Nat.beq i j || (match dstOf ops i with | some _ => !(dstOf ops i == dstOf ops j) | none => true)) &&
  ((List.range ops.size).all fun j => Nat.blt j n || (List.range n).all fun i => reach ops ops.size j i) &&
  Region.seqB .any ops (ops.size - n) n ((List.range ops.size).map (fun i => Nat.blt i n)).toArray &&
  (Ps.getD 0 [true] == E.map fun _ => false) && (Ps.getD kend [] == E.map fun e => Nat.blt e n) && ((List.range Ps.length).all fun k => !(Ps.getD k [] == E.map fun e => Nat.blt e n) || Nat.beq k kend) &&
  ((List.range n).all fun i => (List.range Ps.length).all fun k => !mayB ops E i (Ps.getD k []) || (Al.getD i []).any fun (a, b) => Nat.beq a k && (Ps[b]? == some (stepPh E i (Ps.getD k []))))

section
variable {P : Program} {ops : Array Oper} {Q : Exit → Act → World → Prop} {N n : Nat} {ρ0 : Nat → Value} {Nm : Type} {J : Nat → Nm → St → Prop} {V : Nat → Nm → Value}

/-- What an operation does in a state, and which state it leads to. -/
def DoesP (P : Program) (ops : Array Oper) (N n : Nat) (J : Nat → Nm → St → Prop) (V : Nat → Nm → Value) (ρ : Nat → Value) (σ : St) (nm : Nm) (i : Nat) (o : Oper) (k' : Nat) : Prop :=
  (Region.wanted o (yv ops N ρ) = true ∧ ((∃ v σ' nm', (execOp (ev N ρ) o).run P σ.w = .ok (.value v) σ'.w ∧ V i nm' = v ∧ J k' nm' σ' ∧ ∀ j, befB ops n i j = true → V j nm' = V j nm) ∨
      (∃ σ' nm', o.dst = none ∧ (execOp (ev N ρ) o).run P σ.w = .ok .skip σ'.w ∧ J k' nm' σ' ∧ ∀ j, befB ops n i j = true → V j nm' = V j nm) ∨
      ∃ f args, (execOp (ev N ρ) o).run P σ.w = .ok (.enter f (List.toArray args)) σ.w ∧ Calls P f args.toArray σ.w fun e w' => ∃ v σ' nm', e = .returned v ∧ w' = σ'.w ∧ V i nm' = v ∧ J k' nm' σ' ∧ ∀ j, befB ops n i j = true → V j nm' = V j nm)) ∨
  (Region.wanted o (yv ops N ρ) = false ∧ V i nm = undef ∧ J k' nm σ)

structure RInv (ops : Array Oper) (N n : Nat) (E : List Nat) (Ps : List (List Bool)) (ρ0 : Nat → Value) (J : Nat → Nm → St → Prop) (V : Nat → Nm → Value) (listed : Array Bool) (ρ : Nat → Value) (σ : St) : Prop where
  size : listed.size = ops.size
  off : ∀ t, (∀ i, i < n → dstOf ops i ≠ some t) → ρ t = ρ0 t
  st : ∃ nm k, Ps[k]? = some (ph E listed) ∧ J k nm σ ∧ ∀ i, i < n → listed.getD i false = true → ∀ d, dstOf ops i = some d → look N ρ d = V i nm
  low : ∀ i, n ≤ i → listed.getD i false = false
  closed : ∀ i o, listed.getD i false = true → ops[i]? = some o → ∀ j, waits o j = true → listed.getD j false = true

theorem reach_listed {listed : Array Bool} (hcl : ∀ i o, listed.getD i false = true → ops[i]? = some o → ∀ j, waits o j = true → listed.getD j false = true) {i : Nat} :
    ∀ (f j : Nat) (o : Oper), ops[j]? = some o → (∀ k, waits o k = true → listed.getD k false = true) → reach ops f j i = true → listed.getD i false = true := by
  intro f
  induction f with
  | zero => intro j o _ _ h; cases h
  | succ f ih =>
    intro j o ho hw h
    rw [reach, ho] at h
    simp only [Bool.or_eq_true] at h
    rcases h with h | h
    · exact hw i h
    · obtain ⟨e, he, h⟩ := List.any_eq_true.1 h
      simp only [Bool.and_eq_true] at h
      have h1 : waits o e.on = true := List.any_eq_true.2 ⟨e, he, by simp only [Bool.and_eq_true]; exact ⟨Nat.beq_refl _, h.1⟩⟩
      have h2 := hw _ h1
      cases f with
      | zero => cases h.2
      | succ f' =>
        cases ho' : ops[e.on]? with
        | none => have := h.2; rw [reach, ho'] at this; cases this
        | some o' => exact ih e.on o' ho' (fun k hk => hcl _ _ h2 ho' k hk) h.2
theorem listed_full {listed : Array Bool} (hs : listed.size = ops.size) (hlow : ∀ i, n ≤ i → listed.getD i false = false) (hall : ∀ i, i < n → listed.getD i false = true) :
    listed = ((List.range ops.size).map (fun i => Nat.blt i n)).toArray := by
  apply Array.ext_getElem?
  intro i
  by_cases hi : i < ops.size
  · have h1 : listed[i]? = some (listed.getD i false) := by simp [Array.getD, hs, hi]
    rw [h1]
    simp only [List.getElem?_toArray, List.getElem?_map]
    rw [List.getElem?_range hi]
    simp only [Option.map_some, Option.some.injEq]
    by_cases hn : i < n
    · rw [hall i hn, blt_t hn]
    · rw [hlow i (by omega), blt_f hn]
  · rw [Array.getElem?_eq_none (by omega)]
    simp [hi]
theorem countP_set {listed : Array Bool} {i n : Nat} (hi : i < n) (h0 : listed.getD i false = false) (hs : i < listed.size) :
    (List.range n).countP (fun j => !listed.getD j false) = (List.range n).countP (fun j => !(listed.setIfInBounds i true).getD j false) + 1 := by
  induction n with
  | zero => omega
  | succ n ih =>
    rw [List.range_succ, List.countP_append, List.countP_append]
    by_cases h : i = n
    · subst h
      have e1 : (List.range i).countP (fun j => !listed.getD j false) = (List.range i).countP (fun j => !(listed.setIfInBounds i true).getD j false) := by
        refine List.countP_congr fun j hj => ?_
        rw [getD_set_ne false (by have := List.mem_range.1 hj; omega)]
      have e2 : (listed.setIfInBounds i true).getD i false = true := by simp [Array.getD, hs]
      rw [e1]
      simp only [List.countP_cons, List.countP_nil, h0, e2]
      rfl
    · have := ih (by omega)
      have e : (listed.setIfInBounds i true).getD n false = listed.getD n false := getD_set_ne false h
      rw [this]
      simp only [List.countP_cons, List.countP_nil, e]
      omega
theorem ph_set {E : List Nat} {listed : Array Bool} {i : Nat} (hs : i < listed.size) : ph E (listed.setIfInBounds i true) = stepPh E i (ph E listed) := by
  induction E with
  | nil => rfl
  | cons e E ih =>
    simp only [ph, stepPh, List.map_cons, List.zipWith_cons_cons] at ih ⊢
    rw [ih]
    congr 1
    by_cases h : e = i
    · subst h; simp [Array.getD, hs]
    · rw [getD_set_ne false (Ne.symm h), beq_f h, Bool.or_false]
theorem zip_ph {listed : Array Bool} {e : Nat} {b : Bool} : ∀ {E : List Nat}, (e, b) ∈ List.zip E (ph E listed) → b = listed.getD e false
  | [], h => by cases h
  | a :: E, h => by
    simp only [ph, List.map_cons, List.zip_cons_cons, List.mem_cons, Prod.mk.injEq] at h
    rcases h with ⟨rfl, rfl⟩ | h
    · rfl
    · exact zip_ph (E := E) h
theorem ph_empty {E : List Nat} {m : Nat} : ph E (Array.replicate m false) = E.map fun _ => false := by
  unfold ph
  exact List.map_congr_left fun e _ => getD_replicate_false _ _
theorem ph_full {E : List Nat} {m : Nat} (hE : ∀ e ∈ E, e < n → e < m) : ph E ((List.range m).map (fun i => Nat.blt i n)).toArray = E.map fun e => Nat.blt e n := by
  unfold ph
  refine List.map_congr_left fun e he => ?_
  by_cases hm : e < m
  · simp [Array.getD, hm]
  · have : ¬ e < n := fun h => hm (hE e he h)
    rw [blt_f this]
    simp [Array.getD, hm]

theorem wpAny_rg {E : List Nat} {Ps : List (List Bool)} {Al : List (List (Nat × Nat))} {kend : Nat} (hB : rgB N ops n E Ps Al kend = true)
    (hop : ∀ i o k k', i < n → ops[i]? = some o → (k, k') ∈ Al.getD i [] → ∀ nm ρ σ, J k nm σ → (∀ t, (∀ i, i < n → dstOf ops i ≠ some t) → ρ t = ρ0 t) →
      (∀ j, waits o j = true → j < n → ∀ d, dstOf ops j = some d → look N ρ d = V j nm) → DoesP P ops N n J V ρ σ nm i o k')
    (hk : ∀ nm ρ σ, J kend nm σ → (∀ t, (∀ i, i < n → dstOf ops i ≠ some t) → ρ t = ρ0 t) → (∀ i, i < n → ∀ d, dstOf ops i = some d → look N ρ d = V i nm) →
      wpList P ops Q (ops.toList.drop n) (fr N ρ) σ.w) :
    ∀ (fuel : Nat) (listed : Array Bool) (ρ : Nat → Value) (σ : St), RInv ops N n E Ps ρ0 J V listed ρ σ → (List.range n).countP (fun i => !listed.getD i false) + (ops.size - n) = fuel →
      wpAny P .any ops Q fuel listed (fr N ρ) σ.w := by
  simp only [rgB, Bool.and_eq_true] at hB
  obtain ⟨⟨⟨⟨⟨⟨⟨hn, hd⟩, hw⟩, hseq⟩, _⟩, hend⟩, huniq⟩, hal⟩ := hB
  have hn := Nat.le_of_ble_eq_true hn
  have hdst : ∀ i d, i < n → dstOf ops i = some d → d < N := by
    intro i d hi h
    have := List.all_eq_true.1 hd i (List.mem_range.2 hi)
    simp only [Bool.and_eq_true] at this
    have h1 := this.1.1
    rw [h] at h1
    refine Classical.byContradiction fun hc => ?_
    simp only [blt_f hc] at h1; cases h1
  have hback : ∀ i o, i < n → ops[i]? = some o → ∀ e ∈ o.after.toList, Region.binds .any e = true → e.on < i := by
    intro i o hi ho e he hb
    have := List.all_eq_true.1 hd i (List.mem_range.2 hi)
    simp only [Bool.and_eq_true] at this
    have h1 := this.1.2
    rw [ho] at h1
    have := List.all_eq_true.1 h1 e he
    simp only [hb, Bool.not_true, Bool.false_or] at this
    refine Classical.byContradiction fun hc => ?_
    rw [blt_f hc] at this; cases this
  have hne : ∀ i j d, i < n → j < n → i ≠ j → dstOf ops i = some d → dstOf ops j ≠ some d := by
    intro i j d hi hj hij hdi hdj
    have := List.all_eq_true.1 hd i (List.mem_range.2 hi)
    simp only [Bool.and_eq_true] at this
    have := List.all_eq_true.1 this.2 j (List.mem_range.2 hj)
    rw [hdi, hdj] at this
    simp [beq_f hij] at this
  have hwait : ∀ j i o, n ≤ j → i < n → ops[j]? = some o → reach ops ops.size j i = true := by
    intro j i o hj hi ho
    have hlt := (Array.getElem?_eq_some_iff.1 ho).1
    have := List.all_eq_true.1 hw j (List.mem_range.2 hlt)
    rw [blt_f (by omega), Bool.false_or] at this
    exact List.all_eq_true.1 this i (List.mem_range.2 hi)
  have fin : ∀ (listed : Array Bool) (ρ : Nat → Value) (σ : St), RInv ops N n E Ps ρ0 J V listed ρ σ → (∀ i, i < n → listed.getD i false = true) →
      listed = ((List.range ops.size).map (fun i => Nat.blt i n)).toArray ∧ wpList P ops Q (ops.toList.drop n) (fr N ρ) σ.w := by
    intro listed ρ σ inv hall
    have hfull := listed_full inv.size inv.low hall
    refine ⟨hfull, ?_⟩
    obtain ⟨nm, k, hp, hJ, hrel⟩ := inv.st
    rw [hfull, ph_full (fun e _ h => by omega)] at hp
    have hkl := (List.getElem?_eq_some_iff.1 hp).1
    have := List.all_eq_true.1 huniq k (List.mem_range.2 hkl)
    have e1 : Ps.getD k [] = E.map fun e => Nat.blt e n := by simp [List.getD, hp]
    rw [e1] at this
    simp only [beq_self_eq_true, Bool.not_true, Bool.false_or] at this
    have := Nat.eq_of_beq_eq_true this
    subst this
    exact hk nm ρ σ hJ inv.off (fun i hi d hd => hrel i hi (hall i hi) d hd)
  intro fuel
  induction fuel with
  | zero =>
    intro listed ρ σ inv hf
    have hall : ∀ i, i < n → listed.getD i false = true := by
      intro i hi
      have h0 : (List.range n).countP (fun i => !listed.getD i false) = 0 := by omega
      have := List.countP_eq_zero.1 h0 i (List.mem_range.2 hi)
      simpa using this
    obtain ⟨hfull, hh⟩ := fin listed ρ σ inv hall
    have hdr : ops.toList.drop n = [] := by rw [List.drop_eq_nil_iff]; simp; omega
    rw [hdr] at hh
    refine ⟨?_, hh⟩
    have : Region.seqB .any ops 0 n listed = true := by
      rw [hfull]
      have e : ops.size - n = 0 := by omega
      rw [e] at hseq; exact hseq
    simpa [Region.seqB] using this
  | succ fuel ih =>
    intro listed ρ σ inv hf
    by_cases hall : ∀ i, i < n → listed.getD i false = true
    · -- only the tail is left
      obtain ⟨hfull, hh⟩ := fin listed ρ σ inv hall
      have h0 : (List.range n).countP (fun i => !listed.getD i false) = 0 := by
        rw [List.countP_eq_zero]
        intro i hi
        simp [hall i (List.mem_range.1 hi)]
      have := wpAny_of_seq (md := .any) (Q' := Q) (P := P) (ops.toList.drop n) n listed (fr N ρ) σ.w (fun j => by simp [List.getElem?_drop]) (by
        rw [hfull, List.length_drop, Array.length_toList]; exact hseq) hh
      rw [List.length_drop, Array.length_toList] at this
      rw [show fuel + 1 = ops.size - n by omega]
      exact this
    · -- some operation of the head is still to come
      have hexists : ∃ i, i < n ∧ listed.getD i false = false := by
        refine Classical.byContradiction fun hc => hall fun i hi => ?_
        cases h : listed.getD i false with
        | true => rfl
        | false => exact absurd ⟨i, hi, h⟩ hc
      have step : ∀ i ∈ Region.ready .any ops listed, wpOp P ops Q i (wpAny P .any ops Q fuel (listed.setIfInBounds i true)) (fr N ρ) σ.w := by
        intro i hi
        obtain ⟨h1, o, ho, h2⟩ := mem_ready.1 hi
        have hlt := (Array.getElem?_eq_some_iff.1 ho).1
        have hls : i < listed.size := by rw [inv.size]; exact hlt
        have hwj : ∀ j, waits o j = true → listed.getD j false = true := by
          intro j hj
          obtain ⟨e, he, hb⟩ := List.any_eq_true.1 hj
          simp only [Bool.and_eq_true] at hb
          have := Nat.eq_of_beq_eq_true hb.1
          subst this
          exact h2 e (by simpa using he) hb.2
        have hin : i < n := by
          refine Classical.byContradiction fun hc => ?_
          obtain ⟨k, hk1, hk2⟩ := hexists
          have := reach_listed inv.closed _ i o ho hwj (hwait i k o (by omega) hk1 ho)
          rw [hk2] at this; cases this
        have hi0 : listed.getD i false = false := by
          simp only [Array.getD, hls, dif_pos] at h1 ⊢
          exact h1
        -- what has come up did not wait for this one
        have hbef : ∀ j, j < n → i ≠ j → listed.getD j false = true → befB ops n i j = true := by
          intro j hj hij hl
          have : reach ops ops.size j i = false := by
            cases hr : reach ops ops.size j i with
            | false => rfl
            | true =>
              obtain ⟨oj, hoj⟩ : ∃ oj, ops[j]? = some oj := by rw [Array.getElem?_eq_getElem (by omega)]; exact ⟨_, rfl⟩
              have := reach_listed inv.closed _ j oj hoj (fun k hk => inv.closed j oj hl hoj k hk) hr
              rw [hi0] at this; cases this
          simp only [befB, blt_t hj, beq_f (Ne.symm hij), this, Bool.not_false, Bool.and_self]
        obtain ⟨nm, k, hp, hJ, hrel⟩ := inv.st
        have hkl := (List.getElem?_eq_some_iff.1 hp).1
        have ek : Ps.getD k [] = ph E listed := by simp [List.getD, hp]
        have hmay : mayB ops E i (ph E listed) = true := by
          unfold mayB
          refine List.all_eq_true.2 fun ⟨e, b⟩ heb => ?_
          have hb : b = listed.getD e false := zip_ph heb
          subst hb
          simp only [Bool.and_eq_true, Bool.or_eq_true, Bool.not_eq_true']
          refine ⟨⟨?_, ?_⟩, ?_⟩
          · cases hr : reach ops ops.size i e with
            | false => exact .inl rfl
            | true => exact .inr (reach_listed inv.closed _ i o ho hwj hr)
          · cases hr : reach ops ops.size e i with
            | false => exact .inl rfl
            | true =>
              right
              cases hl : listed.getD e false with
              | false => rfl
              | true =>
                cases hoe : ops[e]? with
                | none =>
                  cases hsz : ops.size with
                  | zero => omega
                  | succ q => rw [hsz, reach, hoe] at hr; cases hr
                | some oe =>
                  have := reach_listed inv.closed _ e oe hoe (fun k hk => inv.closed e oe hl hoe k hk) hr
                  rw [hi0] at this; cases this
          · by_cases hei : e = i
            · subst hei; exact .inr hi0
            · exact .inl (beq_f hei)
        have h3 := List.all_eq_true.1 (List.all_eq_true.1 hal i (List.mem_range.2 hin)) k (List.mem_range.2 hkl)
        rw [ek, hmay] at h3
        simp only [Bool.not_true, Bool.false_or] at h3
        obtain ⟨⟨ka, k'⟩, hmem, h4⟩ := List.any_eq_true.1 h3
        simp only [Bool.and_eq_true, beq_iff_eq] at h4
        have := Nat.eq_of_beq_eq_true h4.1
        subst this
        have hp' : Ps[k']? = some (ph E (listed.setIfInBounds i true)) := by rw [ph_set hls]; exact h4.2
        have hdo := hop i o ka k' hin ho hmem nm ρ σ hJ inv.off (fun j hj hjn d hd => hrel j hjn (hwj j hj) d hd)
        have next : ∀ v (σ' : St) nm', V i nm' = v → J k' nm' σ' → (∀ j, befB ops n i j = true → V j nm' = V j nm) → ∀ a', a' = (fr N ρ).put o.dst v → wpAny P .any ops Q fuel (listed.setIfInBounds i true) a' σ'.w := by
          rintro v σ' nm' hV hJ' hst a' rfl
          have key : ∀ ρ', (fr N ρ).put o.dst v = fr N ρ' → (∀ t, (∀ i, i < n → dstOf ops i ≠ some t) → ρ' t = ρ0 t) → (∀ j, j < n → (listed.setIfInBounds i true).getD j false = true → ∀ d, dstOf ops j = some d → look N ρ' d = V j nm') →
              wpAny P .any ops Q fuel (listed.setIfInBounds i true) ((fr N ρ).put o.dst v) σ'.w := by
            intro ρ' e hoff hrel'
            rw [e]
            refine ih _ _ _ ⟨by simp [inv.size], hoff, ⟨nm', k', hp', hJ', hrel'⟩, ?_, ?_⟩ ?_
            · intro j hj
              rw [getD_set_ne false (by omega)]
              exact inv.low j hj
            · intro j oj hj hoj q hq
              by_cases hij : i = j
              · subst hij
                rw [ho] at hoj; cases hoj
                exact getD_set_true (hwj q hq)
              · rw [getD_set_ne false hij] at hj
                exact getD_set_true (inv.closed j oj hj hoj q hq)
            · have := countP_set (listed := listed) (i := i) (n := n) hin hi0 hls
              omega
          cases hod : o.dst with
          | none =>
            have hdn : dstOf ops i = none := by simp [dstOf, ho, hod]
            refine hod ▸ key ρ (by rw [hod, fr_put_none]) inv.off ?_
            intro j hj hl d' hd'
            by_cases hij : i = j
            · subst hij; rw [hdn] at hd'; cases hd'
            · rw [getD_set_ne false hij] at hl
              rw [hst j (hbef j hj hij hl)]
              exact hrel j hj hl d' hd'
          | some d =>
            have hdi : dstOf ops i = some d := by simp [dstOf, ho, hod]
            have hdN := hdst i d hin hdi
            refine hod ▸ key (upd ρ d v) (by rw [hod, fr_put]) ?_ ?_
            · intro t ht
              have : t ≠ d := fun e => ht i hin (e ▸ hdi)
              show (bif Nat.beq t d then v else ρ t) = _
              rw [beq_f this]
              exact inv.off t ht
            · intro j hj hl d' hd'
              by_cases hij : i = j
              · subst hij
                rw [hdi] at hd'; cases hd'
                have : look N (upd ρ d v) d = v := by
                  rw [look_lt _ hdN]; show (bif Nat.beq d d then v else _) = v; rw [beq_t]; rfl
                rw [this, hV]
              · rw [getD_set_ne false hij] at hl
                have hne' : d' ≠ d := fun e => hne i j d hin hj hij hdi (e ▸ hd')
                have : look N (upd ρ d v) d' = look N ρ d' := by
                  unfold look
                  have : upd ρ d v d' = ρ d' := by show (bif Nat.beq d' d then v else ρ d') = _; rw [beq_f hne']; rfl
                  rw [this]
                rw [this, hst j (hbef j hj hij hl)]
                exact hrel j hj hl d' hd'
        unfold wpOp
        rw [ho]
        simp only [yielded_fr]
        rcases hdo with ⟨hwant, hrun⟩ | ⟨hwant, hV, hJ'⟩
        · rw [if_pos hwant]
          refine .inl ?_
          unfold Oper.wp
          rw [fr_eval]
          rcases hrun with ⟨v, σ', nm', hr, hV, hJ', hst⟩ | ⟨σ', nm', hnd, hr, hJ', hst⟩ | ⟨f, args, hr, hc⟩
          · rw [hr, Oper.upon_value]
            exact next v σ' nm' hV hJ' hst _ rfl
          · rw [hr, Oper.upon_skip]
            exact next _ σ' nm' rfl hJ' hst _ (by rw [hnd]; rfl)
          · rw [hr, Oper.upon_enter]
            refine hc.mono ?_
            rintro e w' ⟨v, σ', nm', rfl, rfl, hV, hJ', hst⟩
            exact next v σ' nm' hV hJ' hst _ rfl
        · rw [hwant, if_neg (by simp)]
          exact next undef σ nm hV hJ' (fun _ _ => rfl) _ rfl
      refine ⟨fun hemp => ?_, step⟩
      exfalso
      obtain ⟨m, ⟨hm1, hm2⟩, hmin⟩ := exists_least (p := fun i => i < n ∧ listed.getD i false = false) hexists
      obtain ⟨o, ho⟩ : ∃ o, ops[m]? = some o := by
        rw [Array.getElem?_eq_getElem (by omega)]; exact ⟨_, rfl⟩
      have hms : m < listed.size := by rw [inv.size]; omega
      have : m ∈ Region.ready .any ops listed := by
        refine mem_ready.2 ⟨?_, o, ho, fun e he hb => ?_⟩
        · simp only [Array.getD, hms, dif_pos] at hm2 ⊢; exact hm2
        · have hlt := hback m o hm1 ho e (by simpa using he) hb
          cases hx : listed.getD e.on false with
          | true => rfl
          | false =>
            have := hmin e.on ⟨by omega, hx⟩
            omega
      rw [hemp] at this; cases this

/-! ## What the walk says of each operation -/
def AllOps (F : Nat → Oper → Prop) : Nat → Nat → List Oper → Prop
  | 0, _, _ => True
  | _ + 1, _, [] => True
  | n + 1, k, o :: r => F k o ∧ AllOps F n (k + 1) r
theorem all_nil {F : Nat → Oper → Prop} {k : Nat} {l : List Oper} : AllOps F 0 k l := trivial
theorem all_cons {F : Nat → Oper → Prop} {n k : Nat} {o : Oper} {r : List Oper} (h : F k o) (t : AllOps F n (k + 1) r) : AllOps F (n + 1) k (o :: r) := ⟨h, t⟩
theorem all_ops {F : Nat → Oper → Prop} : ∀ (n k : Nat) (l : List Oper), AllOps F n k l → ∀ i o, i < n → l[i]? = some o → F (k + i) o
  | 0, _, _, _, _, _, hi, _ => by omega
  | _ + 1, _, [], _, _, _, _, ho => by simp at ho
  | n + 1, k, o :: r, ⟨h, t⟩, i, o', hi, ho => by
    cases i with
    | zero => simp at ho; subst ho; exact h
    | succ i =>
      have := all_ops n (k + 1) r t i o' (by omega) (by simpa using ho)
      rw [show k + (i + 1) = k + 1 + i by omega]; exact this
def AllK (F : Nat → Nat → Prop) : List (Nat × Nat) → Prop
  | [] => True
  | (k, k') :: r => F k k' ∧ AllK F r
theorem allK {F : Nat → Nat → Prop} : ∀ {l : List (Nat × Nat)}, AllK F l → ∀ k k', (k, k') ∈ l → F k k'
  | [], _, _, _, h => by cases h
  | (a, b) :: r, ⟨h, t⟩, k, k', hm => by
    rcases List.mem_cons.1 hm with e | hm
    · cases e; exact h
    · exact allK t k k' hm
def AtL (l : List (List (Nat × Nat))) (i : Nat) : List (Nat × Nat) := l.getD i []
def Jl (l : List (Nm → St → Prop)) (k : Nat) (nm : Nm) (σ : St) : Prop := (l.getD k (fun _ _ => False)) nm σ
def Vl (l : List (Nm → Value)) (i : Nat) (nm : Nm) : Value := (l.getD i (fun _ => undef)) nm
def offB (ops : Array Oper) (n t : Nat) : Bool := (List.range n).all fun i => !(dstOf ops i == some t)
theorem off_of {t : Nat} (h : offB ops n t = true) : ∀ i, i < n → dstOf ops i ≠ some t := by
  intro i hi
  have := List.all_eq_true.1 h i (List.mem_range.2 hi)
  simpa using this
/-- What the walk owes at an operation, in a state. -/
def Ob (P : Program) (ops : Array Oper) (N n : Nat) (ρ0 : Nat → Value) (J : Nat → Nm → St → Prop) (V : Nat → Nm → Value) (i : Nat) (o : Oper) (k k' : Nat) : Prop :=
  ∀ nm ρ σ, J k nm σ → (∀ t, offB ops n t = true → ρ t = ρ0 t) → (∀ j, waits o j = true → Nat.blt j n = true → ∀ d, dstOf ops j = some d → look N ρ d = V j nm) → DoesP P ops N n J V ρ σ nm i o k'

theorem rg2 {id : Nat} {l : List Oper} {σ : St} (n : Nat) (E : List Nat) (Ps : List (List Bool)) (Al : List (List (Nat × Nat))) (kend : Nat) (Js : List (Nm → St → Prop)) (Vs : List (Nm → Value)) (nm0 : Nm)
    (hm : P.follows .mixedOrders = true) (hB : rgB N l.toArray n E Ps Al kend = true) (h0 : ∀ σ1, Md (cov []) σ σ1 → Jl Js 0 nm0 σ1)
    (hop : AllOps (fun i o => AllK (Ob P l.toArray N n ρ0 (Jl Js) (Vl Vs) i o) (AtL Al i)) n 0 l)
    (hk : ∀ nm ρ σ', Jl Js kend nm σ' → (∀ t, offB l.toArray n t = true → ρ t = ρ0 t) → (∀ i, Nat.blt i n = true → ∀ d, dstOf l.toArray i = some d → look N ρ d = Vl Vs i nm) →
      wpList P l.toArray Q (l.drop n) (fr N ρ) σ'.w) : (Code.region id l.toArray true).wp P Q (fr N ρ0) σ.w := by
  refine wp_region_any hm ?_
  let σ1 : St := ⟨{ σ.w with drawn := σ.w.drawn + 1 }, σ.vis, σ.ok⟩
  have m1 : Md (cov []) σ σ1 := ⟨rfl, rfl, rfl, Nat.le_succ _, ⟨Nat.le_refl _, fun _ _ _ => rfl, fun _ => Nat.le_refl _⟩, fun _ _ _ => rfl, fun _ _ _ => rfl⟩
  have hB' := hB
  simp only [rgB, Bool.and_eq_true] at hB'
  obtain ⟨⟨⟨⟨⟨⟨⟨hn, _⟩, _⟩, _⟩, hst⟩, _⟩, _⟩, _⟩ := hB'
  have hnl : n ≤ l.length := by simpa using Nat.le_of_ble_eq_true hn
  have hb : ∀ j, Nat.blt j n = true → j < n := fun j h => Classical.byContradiction fun hc => by rw [blt_f hc] at h; cases h
  refine wpAny_rg (ρ0 := ρ0) (J := Jl Js) (V := Vl Vs) hB ?_ ?_ _ _ ρ0 σ1 ⟨by simp, fun _ _ => rfl, ⟨nm0, 0, ?_, h0 σ1 m1, fun i _ h => (by rw [getD_replicate_false] at h; exact absurd h (by decide))⟩, fun i _ => getD_replicate_false _ _, fun i _ h => (by rw [getD_replicate_false] at h; exact absurd h (by decide))⟩ ?_
  · intro i o k k' hi ho hmem nm ρ σ' hJ hoff hdep
    have := allK (all_ops n 0 l hop i o hi (by simpa using ho)) k k' (by rw [Nat.zero_add]; exact hmem)
    rw [Nat.zero_add] at this
    exact this nm ρ σ' hJ (fun t ht => hoff t (off_of ht)) (fun j hj hjn d hd => hdep j hj (hb j hjn) d hd)
  · intro nm ρ σ' hJ hoff hrel
    simpa using hk nm ρ σ' hJ (fun t ht => hoff t (off_of ht)) (fun i hi d hd => hrel i (hb i hi) d hd)
  · rw [ph_empty]
    have : Ps.getD 0 [true] = E.map fun _ => false := by simpa using hst
    cases Ps with
    | nil =>
      cases E with
      | nil => simp at this
      | cons e E => simp at this
    | cons p Ps => simpa using this
  · have : (List.range n).countP (fun i => !(Array.replicate l.toArray.size false).getD i false) = n := by
      rw [List.countP_eq_length.2]
      · simp
      · intro i _; rw [getD_replicate_false]; rfl
    rw [this]
    simp; omega

/-! ## How the operations of such a region are walked -/
variable {ρ : Nat → Value} {σ : St} {nm nm' : Nm} {i k k' : Nat} {o : Oper} {v : Value} {d : Nat} {op : Op} {ty : TypeId} {pos : String} {af : Array Edge} {gd : Option (Nat × Bool)}
theorem look_off {t : Nat} (h : ρ t = ρ0 t) (hv : look N ρ0 t = v) : look N ρ t = v := by
  rw [← hv]; unfold look; rw [h]
theorem yv_undef {j d : Nat} (hd : dstOf ops j = some d) (h : look N ρ d = undef) : yv ops N ρ j = none := by
  unfold yv
  rw [show (ops[j]?).bind (·.dst) = some d from hd]
  simp only [h]; rfl
theorem yv_of {j d : Nat} {b : Bool} (hd : dstOf ops j = some d) (h : look N ρ d = B b) : yv ops N ρ j = some b := by
  unfold yv
  rw [show (ops[j]?).bind (·.dst) = some d from hd]
  simp only [h]
/-- It computes or reads. -/
theorem dp_v (hw : Region.wanted o (yv ops N ρ) = true) (hr : RunV P σ.w.heap N ρ o v) (hV : V i nm = v) (hJ : J k nm σ) : DoesP P ops N n J V ρ σ nm i o k :=
  .inl ⟨hw, .inl ⟨v, σ, nm, hr σ.w rfl, hV, hJ, fun _ _ => rfl⟩⟩
theorem dp_skip (hw : Region.wanted o (yv ops N ρ) = false) (hV : V i nm = undef) (hJ : J k nm σ) : DoesP P ops N n J V ρ σ nm i o k := .inr ⟨hw, hV, hJ⟩
/-- It turns the memory. -/
theorem dp_ex {Rz : Value → St → Prop} (hw : Region.wanted o (yv ops N ρ) = true) (he : Ex P σ N ρ o Rz) (h : ∀ v σ', Rz v σ' → ∃ σ'' nm', σ''.w = σ'.w ∧ V i nm' = v ∧ J k' nm' σ'' ∧ ∀ j, befB ops n i j = true → V j nm' = V j nm) : DoesP P ops N n J V ρ σ nm i o k' := by
  obtain ⟨v, σ', hr, hz⟩ := he
  obtain ⟨σ'', nm', hw2, h1, h2, h3⟩ := h v σ' hz
  refine .inl ⟨hw, .inl ⟨v, σ'', nm', ?_, h1, h2, h3⟩⟩
  rw [hw2]; exact hr
theorem dp_exS {Rs : St → Prop} (hw : Region.wanted o (yv ops N ρ) = true) (hd : o.dst = none) (he : ExS P σ N ρ o Rs) (h : ∀ σ', Rs σ' → ∃ σ'' nm', σ''.w = σ'.w ∧ J k' nm' σ'' ∧ ∀ j, befB ops n i j = true → V j nm' = V j nm) : DoesP P ops N n J V ρ σ nm i o k' := by
  obtain ⟨σ', hr, hz⟩ := he
  obtain ⟨σ'', nm', hw2, h2, h3⟩ := h σ' hz
  refine .inl ⟨hw, .inr (.inl ⟨σ'', nm', hd, ?_, h2, h3⟩)⟩
  rw [hw2]; exact hr
theorem dp_cx {Rz : Value → St → Prop} (hw : Region.wanted o (yv ops N ρ) = true) (he : Cx P σ N ρ o Rz) (h : ∀ v σ', Rz v σ' → ∃ σ'' nm', σ''.w = σ'.w ∧ V i nm' = v ∧ J k' nm' σ'' ∧ ∀ j, befB ops n i j = true → V j nm' = V j nm) : DoesP P ops N n J V ρ σ nm i o k' := by
  obtain ⟨f, args, hr, hc⟩ := he
  refine .inl ⟨hw, .inr (.inr ⟨f, args, hr, hc.mono ?_⟩)⟩
  rintro e w' ⟨v, σ', rfl, rfl, hz⟩
  obtain ⟨σ'', nm', hw2, h1, h2, h3⟩ := h v σ' hz
  exact ⟨v, σ'', nm', rfl, hw2.symm, h1, h2, h3⟩
/-- The same, whatever the state. -/
theorem obs_v {i : Nat} {o : Oper} {l : List (Nat × Nat)} (hl : (l.all fun p => Nat.beq p.1 p.2) = true)
    (h : ∀ k nm ρ σ, J k nm σ → (∀ t, offB ops n t = true → ρ t = ρ0 t) → (∀ j, waits o j = true → Nat.blt j n = true → ∀ d, dstOf ops j = some d → look N ρ d = V j nm) → DoesP P ops N n J V ρ σ nm i o k) :
    AllK (Ob P ops N n ρ0 J V i o) l := by
  induction l with
  | nil => trivial
  | cons p r ih =>
    obtain ⟨a, b⟩ := p
    simp only [List.all_cons, Bool.and_eq_true] at hl
    have := Nat.eq_of_beq_eq_true hl.1
    subst this
    exact ⟨fun nm ρ σ hJ hoff hdep => h a nm ρ σ hJ hoff hdep, ih hl.2⟩
/-- What is said at numbers that are listed. -/
def AllJ (F : Nat → Prop) : List Nat → Prop
  | [] => True
  | j :: r => F j ∧ AllJ F r
theorem allJ {F : Nat → Prop} : ∀ {l : List Nat}, AllJ F l → ∀ j ∈ l, F j
  | [], _, _, h => by cases h
  | a :: r, ⟨h, t⟩, j, hm => by
    rcases List.mem_cons.1 hm with e | hm
    · cases e; exact h
    · exact allJ t j hm
theorem stab (l : List Nat) (hb : ((List.range n).all fun j => !befB ops n i j || l.contains j) = true) (h : AllJ (fun j => V j nm' = V j nm) l) : ∀ j, befB ops n i j = true → V j nm' = V j nm := by
  intro j hj
  have hjn : j < n := by
    simp only [befB, Bool.and_eq_true] at hj
    exact Classical.byContradiction fun hc => by rw [blt_f hc] at hj; cases hj.1.1
  have := List.all_eq_true.1 hb j (List.mem_range.2 hjn)
  rw [hj] at this
  simp only [Bool.not_true, Bool.false_or, List.contains_iff_mem] at this
  exact allJ h j this
end

/-- A frame that looks like this. -/
theorem fr_look {N : Nat} {ρ : Nat → Value} {L : List (Nat × Value)} (h : ∀ p ∈ L, look N ρ p.1 = p.2) : fr N ρ = fr N (updL ρ L) := by
  refine fr_ext fun t ht => ?_
  induction L with
  | nil => rfl
  | cons p r ih =>
    have h1 := h p (by simp)
    rw [updL]
    by_cases e : t = p.1
    · subst e; rw [beq_t, ← h1, look_lt _ ht]; rfl
    · rw [beq_f e]; exact ih (fun q hq => h q (by simp [hq]))
def agreeL (N : Nat) (ρ : Nat → Value) : List (Nat × Value) → Prop
  | [] => True
  | (d, v) :: r => look N ρ d = v ∧ agreeL N ρ r
theorem fr_lookL {N : Nat} {ρ : Nat → Value} {L : List (Nat × Value)} (h : agreeL N ρ L) : fr N ρ = fr N (updL ρ L) := by
  refine fr_look ?_
  induction L with
  | nil => intro p hp; simp at hp
  | cons q r ih =>
    intro p hp
    rcases List.mem_cons.1 hp with rfl | hp
    · exact h.1
    · exact ih h.2 p hp

/-! ## Cells in the states between -/
theorem nocov {b : Nat} : ¬ cov [] b := id
theorem nor {p q : Prop} (h : ¬ p) (k : ¬ q) : ¬ (p ∨ q) := fun e => e.elim h k
theorem Md.comp0 {S : BS} {a b c : St} (h : Md S a b) (k : Md (cov []) b c) : Md S a c := h.step k (fun _ _ h => h.elim)
theorem Md.comp {S S' : BS} {a b c : St} (h : Md S a b) (k : Md S' b c) : Md (fun i => S i ∨ S' i) a c := (h.mono fun _ h => .inl h).step k (fun _ _ h => .inr h)
theorem Md.hcell {S : BS} {σ σ' : St} {b o : Nat} {u : Value} (m : Md S σ σ') (h : HCell σ.w.heap b o = some u) (hn : ¬ S b) : HCell σ'.w.heap b o = some u := by
  have hb : b < σ.size := by
    refine Classical.byContradiction fun hc => ?_
    unfold HCell at h
    rw [Array.getElem?_eq_none (Nat.le_of_not_lt hc)] at h; cases h
  have := m.block b hb hn
  unfold HCell at h ⊢
  rw [this]; exact h
theorem RS.hmd {el : Nat} {α : Type} [Rp α] {σ σ' : St} {S : BS} {v u : Value} {xs : List α} {a : Int} {e : α} {b o : Nat} (h : RS el σ v xs) (hg : gidx xs a = some e) (hi : Ix v a (Rp.sz α) b o) {k : Nat} (hk : k < Rp.sz α)
    (hc : HCell σ.w.heap b (o + k) = some u) (m : Md S σ σ') : HCell σ'.w.heap b (o + k) = some u := by
  obtain ⟨h0, h1, h2⟩ := gidx_some hg
  obtain ⟨ob, mm, c, rfl, g0, g1, rfl⟩ := hi.it
  rcases h with ⟨_, rfl⟩ | ⟨b, o, c, hv, _, hcap, hvis, hA⟩
  · simp at h1
  · cases hv
    have : (a.toNat + 1) * Rp.sz α ≤ xs.length * Rp.sz α := Nat.mul_le_mul_right _ h1
    rw [Nat.add_mul] at this
    rw [HCell_eq] at hc ⊢
    rw [← hc]
    exact m.ext.cell b _ (by omega)
theorem RS.arr_md {el : Nat} {σ σ' : St} {S : BS} {b o c : Nat} {zs : List Int} (h : RS el σ (Sl (some ⟨b, o, none⟩) zs c) zs) (hc : ∀ j, (hj : j < zs.length) → HCell σ.w.heap b (o + j) = some (I zs[j])) (m : Md S σ σ') :
    ∀ j, (hj : j < zs.length) → HCell σ'.w.heap b (o + j) = some (I zs[j]) := by
  intro j hj
  rcases h with ⟨_, rfl⟩ | ⟨b, o, c, hv, _, hcap, hvis, hA⟩
  · simp at hj
  · cases hv
    rw [← hc j hj, HCell_eq, HCell_eq]
    exact m.ext.cell b _ (by have : Rp.sz Int = 1 := rfl; rw [this] at hvis; omega)
/-- The block in which an element of an own slice lies. -/
theorem Ix.blk {v : Value} {a : Int} {s b o : Nat} (h : Ix v a s b o) : Go.Vs.blk v = some b := by
  obtain ⟨ob, m, c, rfl, _⟩ := h.it
  rfl
/-- Two chunks lie apart. -/
theorem Hp.ne {S0 : BS} {σ0 σ : St} {L : List Ch} (H : Hp S0 σ0 σ L) (i j : Nat) {c d : Ch} (hi : nth L i = some c) (hj : nth L j = some d) (hij : Nat.beq i j = false) {b : Nat} (hb : c.fp b) : ¬ d.fp b :=
  nth_apart H.ap (by rintro rfl; rw [Nat.beq_refl] at hij; cases hij) hi hj hb
end Go.Vs
