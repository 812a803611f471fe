/- What a function of the program does to its memory, step by step. -/
import Derived.Test.YtanbdmdbfjonhaaGreatFilterNearestOpenEng1
import Derived.RangeFuncLeaves
import Derived.RangeFuncSeq
import Derived.TacticsIn
import Derived.Sort.LoopGhostIn
import Derived.LaidEql
set_option linter.unusedVariables false
set_option linter.unusedSimpArgs false
namespace Go.Vs
open Go

def optB (x : Operand) (p : Nat → Bool) : Bool := match x with
  | .tmp t => p t
  | _ => true
def notSel (o : Op) : Bool := match o with
  | .select _ _ => false
  | _ => true
def sqB (ops : Array Oper) (n : Nat) : Bool := (List.range n).all fun i => match ops[i]? with
  | some o => notSel o.op && (o.op.operands.toList.all fun x => optB x fun t => offB ops n t || (List.range i).any fun j => waits o j && (dstOf ops j == some t)) && (match o.guard with | none => true | some (j, _) => waits o j && Nat.blt j i)
  | none => false
def SeqW (P : Program) (ops : Array Oper) (H : Array Obj) (N : Nat) (K : (Nat → Value) → Prop) : List Oper → (Nat → Value) → Prop
  | [], ρ => K ρ
  | o :: r, ρ => ∃ v d, o.dst = some d ∧ ((Region.wanted o (yv ops N ρ) = true ∧ RunV P H N ρ o v) ∨ (Region.wanted o (yv ops N ρ) = false ∧ v = undef)) ∧ SeqW P ops H N K r (upd ρ d v)
def env : List Oper → List Value → (Nat → Value) → (Nat → Value)
  | o :: r, v :: vs, ρ => env r vs (upd ρ (o.dst.getD 0) v)
  | _, _, ρ => ρ
section
variable {P : Program} {ops : Array Oper} {H : Array Obj} {N : Nat} {K : (Nat → Value) → Prop} {Q : Exit → Act → World → Prop}
def StepOK (P : Program) (ops : Array Oper) (H : Array Obj) (N : Nat) (o : Oper) (ρ : Nat → Value) (v : Value) : Prop :=
  ∃ d, o.dst = some d ∧ ((Region.wanted o (yv ops N ρ) = true ∧ RunV P H N ρ o v) ∨ (Region.wanted o (yv ops N ρ) = false ∧ v = undef))
theorem seq_spec : ∀ (l : List Oper) (ρ : Nat → Value), SeqW P ops H N K l ρ → ∃ vs : List Value, vs.length = l.length ∧ K (env l vs ρ) ∧ ∀ i o, l[i]? = some o → StepOK P ops H N o (env (l.take i) (vs.take i) ρ) (vs.getD i undef)
  | [], ρ, h => ⟨[], rfl, h, fun i o ho => by simp at ho⟩
  | o :: r, ρ, ⟨v, d, hd, hv, h⟩ => by
    obtain ⟨vs, h1, h2, h3⟩ := seq_spec r (upd ρ d v) h
    refine ⟨v :: vs, by simp [h1], ?_, fun i o' ho => ?_⟩
    · simp only [env, hd, Option.getD_some]; exact h2
    · cases i with
      | zero =>
        simp only [List.getElem?_cons_zero, Option.some.injEq] at ho
        subst ho
        exact ⟨d, hd, by simpa [env] using hv⟩
      | succ i =>
        have := h3 i o' (by simpa using ho)
        simpa [env, hd] using this
theorem env_off {t : Nat} : ∀ (l : List Oper) (vs : List Value) (ρ : Nat → Value), (∀ o ∈ l, ∀ d, o.dst = some d → d ≠ t) → (∀ o ∈ l, o.dst.isSome = true) → env l vs ρ t = ρ t
  | [], vs, ρ, _, _ => by cases vs <;> rfl
  | o :: r, [], ρ, _, _ => rfl
  | o :: r, v :: vs, ρ, h, hs => by
    rw [env, env_off r vs _ (fun o' ho' => h o' (by simp [ho'])) (fun o' ho' => hs o' (by simp [ho']))]
    cases hd : o.dst with
    | none => have := hs o (by simp); rw [hd] at this; cases this
    | some d =>
      have : t ≠ d := fun e => h o (by simp) d hd e.symm
      show (bif Nat.beq t d then v else ρ t) = ρ t
      rw [beq_f this]; rfl
theorem env_at {d j : Nat} : ∀ (l : List Oper) (vs : List Value) (ρ : Nat → Value), vs.length = l.length → (∀ o ∈ l, o.dst.isSome = true) → (∃ o, l[j]? = some o ∧ o.dst = some d) → (∀ k o, j < k → l[k]? = some o → o.dst ≠ some d) → env l vs ρ d = vs.getD j undef
  | [], vs, ρ, _, _, ⟨o, ho, _⟩, _ => by simp at ho
  | o :: r, [], ρ, hl, _, _, _ => by simp at hl
  | o :: r, v :: vs, ρ, hl, hs, ⟨o', ho', hd'⟩, hk => by
    rw [env]
    cases j with
    | zero =>
      simp only [List.getElem?_cons_zero, Option.some.injEq] at ho'
      subst ho'
      rw [hd', Option.getD_some, env_off r vs _ (fun o2 ho2 d2 hd2 e => by
        obtain ⟨k, hk2, he⟩ := List.mem_iff_getElem.1 ho2
        subst e
        exact hk (k + 1) o2 (by omega) (by simp [hk2, he]) hd2) (fun o2 ho2 => hs o2 (by simp [ho2]))]
      show (bif Nat.beq d d then v else ρ d) = _
      rw [beq_t]; rfl
    | succ j =>
      rw [env_at r vs _ (by simpa using hl) (fun o2 ho2 => hs o2 (by simp [ho2])) ⟨o', by simpa using ho', hd'⟩ (fun k o2 hjk ho2 => hk (k + 1) o2 (by omega) (by simpa using ho2))]
      simp
theorem ev_of_look {ρ ρ' : Nat → Value} {x : Operand} (h : ∀ t, x = .tmp t → look N ρ t = look N ρ' t) : ev N ρ x = ev N ρ' x := by
  cases x with
  | tmp t => exact h t rfl
  | const v => rfl
  | global g => rfl
  | func f => rfl
theorem runV_congr {ρ ρ' : Nat → Value} {o : Oper} {v : Value} (hs : notSel o.op = true) (h : ∀ x ∈ o.op.operands, ev N ρ x = ev N ρ' x) (hr : RunV P H N ρ' o v) : RunV P H N ρ o v := by
  intro w hw
  rw [execOp_congr o (fun cs b e => by rw [e] at hs; cases hs) h]
  exact hr w hw
theorem wanted_congr {ρ ρ' : Nat → Value} {o : Oper} (h : ∀ j b, o.guard = some (j, b) → yv ops N ρ j = yv ops N ρ' j) : Region.wanted o (yv ops N ρ) = Region.wanted o (yv ops N ρ') := by
  unfold Region.wanted
  cases hg : o.guard with
  | none => rfl
  | some p => obtain ⟨j, b⟩ := p; simp only [h j b hg]

theorem rgP {id : Nat} {l : List Oper} {σ : St} {ρ0 : Nat → Value} (n : Nat) (hm : P.follows .mixedOrders = true) (hB : rgB N l.toArray n [] [[]] (List.replicate n [(0, 0)]) 0 = true) (hS : sqB l.toArray n = true)
    (hseq : SeqW P l.toArray σ.w.heap N (fun ρ => ∀ σ' : St, Md (cov []) σ σ' → wpList P l.toArray Q (l.drop n) (fr N ρ) σ'.w) (l.take n) ρ0) :
    (Code.region id l.toArray true).wp P Q (fr N ρ0) σ.w := by
  obtain ⟨vs, hvl, hK, hst⟩ := seq_spec _ _ hseq
  have hB' := hB
  simp only [rgB, Bool.and_eq_true] at hB'
  obtain ⟨⟨⟨⟨⟨⟨⟨hn, hD⟩, _⟩, _⟩, _⟩, _⟩, _⟩, _⟩ := hB'
  have hnl : n ≤ l.length := by simpa using Nat.le_of_ble_eq_true hn
  rw [List.length_take, Nat.min_eq_left hnl] at hvl
  have hget : ∀ i, i < n → (l.take n)[i]? = l.toArray[i]? := fun i hi => by simp [List.getElem?_take, hi]
  have hex : ∀ i, i < n → ∃ o, l.toArray[i]? = some o := fun i hi => by
    have : i < l.length := by omega
    exact ⟨l[i], by simp [this]⟩
  -- what each operation writes
  have hdst : ∀ i, i < n → ∃ d, dstOf l.toArray i = some d ∧ d < N ∧ ∀ j, j < n → j ≠ i → dstOf l.toArray j ≠ some d := by
    intro i hi
    obtain ⟨o, ho⟩ := hex i hi
    obtain ⟨d, hd, _⟩ := hst i o (by rw [hget i hi]; exact ho)
    have hdi : dstOf l.toArray i = some d := by unfold dstOf; rw [ho]; exact hd
    have := List.all_eq_true.1 hD i (List.mem_range.2 hi)
    simp only [Bool.and_eq_true, hdi] at this
    obtain ⟨⟨h1, _⟩, h3⟩ := this
    refine ⟨d, hdi, ?_, fun j hj hne e => ?_⟩
    · exact Classical.byContradiction fun hc => by rw [blt_f hc] at h1; cases h1
    · have := List.all_eq_true.1 h3 j (List.mem_range.2 hj)
      rw [beq_f (Ne.symm hne)] at this
      simp [e] at this
  have hsome : ∀ i, i ≤ n → ∀ o ∈ l.take i, o.dst.isSome = true := by
    intro i hi o ho
    obtain ⟨k, hk, he⟩ := List.mem_iff_getElem.1 ho
    rw [List.length_take] at hk
    obtain ⟨d, hd, _⟩ := hdst k (by omega)
    rw [List.getElem_take] at he
    have hkl : k < l.length := by omega
    unfold dstOf at hd
    rw [show l.toArray[k]? = some o by simp [hkl, he]] at hd
    simp only [Option.bind_some] at hd
    rw [hd]; rfl
  have htt : ∀ i, i ≤ n → (l.take n).take i = l.take i := fun i hi => by rw [List.take_take, Nat.min_eq_left hi]
  have henvoff : ∀ i t, i ≤ n → (∀ k, k < n → dstOf l.toArray k ≠ some t) → env (l.take i) (vs.take i) ρ0 t = ρ0 t := by
    intro i t hi ht
    refine env_off _ _ _ (fun o ho d hd e => ?_) (hsome i hi)
    obtain ⟨k, hk, he⟩ := List.mem_iff_getElem.1 ho
    rw [List.length_take] at hk
    rw [List.getElem_take] at he
    have hkl : k < l.length := by omega
    refine ht k (by omega) ?_
    unfold dstOf
    rw [show l.toArray[k]? = some o by simp [hkl, he]]
    subst e; exact hd
  have henvat : ∀ i j d, i ≤ n → j < i → dstOf l.toArray j = some d → env (l.take i) (vs.take i) ρ0 d = vs.getD j undef := by
    intro i j d hi hj hd
    have hjl : j < l.length := by omega
    rw [env_at (j := j) _ _ _ (by simp; omega) (hsome i hi) ?_ ?_]
    · simp [List.getD, List.getElem?_take, hj]
    · unfold dstOf at hd
      rw [show l.toArray[j]? = some l[j] by simp [hjl]] at hd
      exact ⟨l[j], by simp [List.getElem?_take, hj, hjl], hd⟩
    · intro k o hjk ho hdo
      have hkl : k < i := by
        refine Classical.byContradiction fun hc => ?_
        rw [List.getElem?_take, if_neg hc] at ho; cases ho
      rw [List.getElem?_take, if_pos hkl] at ho
      obtain ⟨d', h1, _, h3⟩ := hdst j (by omega)
      have : d' = d := by rw [hd] at h1; exact (Option.some.inj h1).symm
      subst this
      refine h3 k (by omega) (by omega) ?_
      unfold dstOf
      rw [show l.toArray[k]? = some o by simpa using ho]
      exact hdo
  refine rg2e (Nm := Unit) (σ := σ) n [] [[]] (List.replicate n [(0, 0)]) 0 [fun _ σm => σm.w.heap = σ.w.heap ∧ Md (cov []) σ σm] (vs.map fun v _ => v) () hm hB (fun σ1 hh m => ⟨hh, m⟩) ?_ ?_
  · -- each operation
    have main : ∀ i o, i < n → l.toArray[i]? = some o → ∀ k, Ob (Nm := Unit) P l.toArray N n ρ0 (Jl [fun _ σm => σm.w.heap = σ.w.heap ∧ Md (cov []) σ σm]) (Vl (vs.map fun v _ => v)) i o k k := by
      intro i o hi ho k nm ρ σm hJ hoff hdep
      have hS1 := List.all_eq_true.1 hS i (List.mem_range.2 hi)
      rw [ho] at hS1
      simp only [Bool.and_eq_true] at hS1
      obtain ⟨⟨hsel, hops⟩, hgd⟩ := hS1
      have hV : ∀ j, j < n → Vl (vs.map fun v (_ : Unit) => v) j nm = vs.getD j undef := by
        intro j hj
        unfold Vl
        have : j < vs.length := by omega
        simp [List.getD, this]
      have hlook : ∀ j d, waits o j = true → j < i → dstOf l.toArray j = some d → look N ρ d = look N (env (l.take i) (vs.take i) ρ0) d := by
        intro j d hw hj hd
        obtain ⟨d', h1, hdN, _⟩ := hdst j (by omega)
        have : d' = d := by rw [hd] at h1; exact (Option.some.inj h1).symm
        subst this
        rw [hdep j hw (blt_t (by omega)) d' hd, hV j (by omega), look_lt _ hdN, henvat i j d' (by omega) hj hd]
      have hev : ∀ x ∈ o.op.operands, ev N ρ x = ev N (env (l.take i) (vs.take i) ρ0) x := by
        intro x hx
        refine ev_of_look fun t ht => ?_
        subst ht
        have := List.all_eq_true.1 hops (.tmp t) (by simpa using hx)
        simp only [optB, Bool.or_eq_true] at this
        rcases this with h | h
        · unfold look
          rw [hoff t h, henvoff i t (by omega) (off_of h)]
        · obtain ⟨j, hj, hjw⟩ := List.any_eq_true.1 h
          simp only [Bool.and_eq_true] at hjw
          exact hlook j t hjw.1 (List.mem_range.1 hj) (by simpa using hjw.2)
      have hyv : ∀ j b, o.guard = some (j, b) → yv l.toArray N ρ j = yv l.toArray N (env (l.take i) (vs.take i) ρ0) j := by
        intro j b hg
        rw [hg] at hgd
        simp only [Bool.and_eq_true] at hgd
        have hji : j < i := Classical.byContradiction fun hc => by rw [blt_f hc] at hgd; cases hgd.2
        obtain ⟨d, h1, _, _⟩ := hdst j (by omega)
        have hl := hlook j d hgd.1 hji h1
        unfold dstOf at h1
        unfold yv
        simp only [h1, hl]
      obtain ⟨d, hd, hor⟩ := hst i o (by rw [hget i hi]; exact ho)
      rw [htt i (by omega)] at hor
      have hJ2 : σm.w.heap = σ.w.heap := by
        unfold Jl at hJ
        cases k with
        | zero => exact hJ.1
        | succ k => simp at hJ
      rcases hor with ⟨hw, hr⟩ | ⟨hw, hv⟩
      · refine dp_v (v := vs.getD i undef) ?_ ?_ (hV i hi) hJ
        · rw [wanted_congr hyv]; exact hw
        · rw [hJ2]; exact runV_congr hsel hev hr
      · refine dp_skip ?_ (by rw [hV i hi]; exact hv) hJ
        rw [wanted_congr hyv]; exact hw
    have build : ∀ m k : Nat, k + m = n → ∀ r : List Oper, r = l.drop k → AllOps (fun i o => AllK (Ob (Nm := Unit) P l.toArray N n ρ0 (Jl [fun _ σm => σm.w.heap = σ.w.heap ∧ Md (cov []) σ σm]) (Vl (vs.map fun v _ => v)) i o) (AtL (List.replicate n [(0, 0)]) i)) m k r := by
      intro m
      induction m with
      | zero => intro k _ r _; exact all_nil
      | succ m ih =>
        intro k hk r hr
        have hkl : k < l.length := by omega
        rw [List.drop_eq_getElem_cons hkl] at hr
        subst hr
        have hat : AtL (List.replicate n [(0, 0)]) k = [(0, 0)] := by
          unfold AtL
          have : k < n := by omega
          simp [List.getD, this]
        refine all_cons ?_ (ih (k + 1) (by omega) _ rfl)
        simp only [hat]
        exact ⟨main k l[k] (by omega) (by simp [hkl]) 0, trivial⟩
    exact build n 0 (by omega) l (by simp)
  · intro nm ρ σ' hJ hoff hrel
    have hJ2 : Md (cov []) σ σ' := hJ.2
    have hfr : fr N ρ = fr N (env (l.take n) vs ρ0) := by
      refine fr_ext fun t ht => ?_
      have hvt : vs.take n = vs := List.take_of_length_le (by omega)
      by_cases hoffb : offB l.toArray n t = true
      · have := henvoff n t (Nat.le_refl _) (off_of hoffb)
        rw [hvt] at this
        rw [hoff t hoffb, this]
      · have : ∃ i, i < n ∧ dstOf l.toArray i = some t := by
          refine Classical.byContradiction fun hc => hoffb ?_
          unfold offB
          rw [List.all_eq_true]
          intro i hi
          have : dstOf l.toArray i ≠ some t := fun e => hc ⟨i, List.mem_range.1 hi, e⟩
          simpa using this
        obtain ⟨i, hi, hd⟩ := this
        have h1 := hrel i (blt_t hi) t hd
        rw [look_lt _ ht] at h1
        have h2 := henvat n i t (Nat.le_refl _) hi hd
        rw [hvt] at h2
        rw [h1, h2]
        unfold Vl
        have : i < vs.length := by omega
        simp [List.getD, this]
    rw [hfr]
    exact hK σ' hJ2
variable {ρ : Nat → Value} {v : Value} {r : List Oper} {d : Nat} {op : Op} {ty : TypeId} {pos : String} {af : Array Edge} {gd : Option (Nat × Bool)}
theorem sq (hr : RunV P H N ρ ⟨some d, op, ty, pos, af, none⟩ v) (k : SeqW P ops H N K r (upd ρ d v)) : SeqW P ops H N K (⟨some d, op, ty, pos, af, none⟩ :: r) ρ := ⟨v, d, rfl, .inl ⟨wanted_none _ rfl _, hr⟩, k⟩
theorem sq_g {j : Nat} {b : Bool} (hy : yv ops N ρ j = some b) (hr : RunV P H N ρ ⟨some d, op, ty, pos, af, some (j, b)⟩ v) (k : SeqW P ops H N K r (upd ρ d v)) : SeqW P ops H N K (⟨some d, op, ty, pos, af, some (j, b)⟩ :: r) ρ := ⟨v, d, rfl, .inl ⟨wanted_yes rfl hy, hr⟩, k⟩
theorem sq_skip {j : Nat} {b : Bool} (hy : yv ops N ρ j = some (!b)) (k : SeqW P ops H N K r (upd ρ d undef)) : SeqW P ops H N K (⟨some d, op, ty, pos, af, some (j, b)⟩ :: r) ρ := ⟨undef, d, rfl, .inr ⟨wanted_no rfl hy, rfl⟩, k⟩
theorem sq_end (h : K ρ) : SeqW P ops H N K [] ρ := h
end
end Go.Vs

namespace Go.Vs
open Go

abbrev Fz (r : Option Nat) : Fence := { Fence.wide with round := r }

section
variable {P : Program} {ops : Array Oper} {Q : Exit → Act → World → Prop} {n d : Nat} {ρ : Nat → Value} {σ σ0 : St} {w : World} {v : Value} {rest : List Oper} {r : Option Nat}
variable {op : Op} {ty : TypeId} {pos : String} {af : Array Edge} {gd : Option (Nat × Bool)}

theorem stI (hnd : ∀ c, op ≠ .defer c) (hr : RunV P w.heap n ρ ⟨some d, op, ty, pos, af, none⟩ v) (k : wpListIn (Fz r) 0 P ops Q rest (fr n (upd ρ d v)) w) :
    wpListIn (Fz r) 0 P ops Q (⟨some d, op, ty, pos, af, none⟩ :: rest) (fr n ρ) w := by
  unfold wpListIn
  rw [if_pos (by rw [yielded_fr]; exact wanted_none _ rfl _)]
  refine ⟨fun _ _ => trivial, ?_⟩
  rw [Oper.semAt_eq _ _ _ hnd, fr_eval, hr w rfl]
  simp only [Oper.uponIn_value, fr_put]
  exact k
theorem stI_ex {Rz : Value → St → Prop} (hnd : ∀ c, op ≠ .defer c) (he : Ex P σ n ρ ⟨some d, op, ty, pos, af, none⟩ Rz)
    (k : ∀ v (σ' : St), Rz v σ' → wpListIn (Fz r) 0 P ops Q rest (fr n (upd ρ d v)) σ'.w) : wpListIn (Fz r) 0 P ops Q (⟨some d, op, ty, pos, af, none⟩ :: rest) (fr n ρ) σ.w := by
  obtain ⟨v, σ', h1, h2⟩ := he
  unfold wpListIn
  rw [if_pos (by rw [yielded_fr]; exact wanted_none _ rfl _)]
  refine ⟨fun _ _ => trivial, ?_⟩
  have h1' : (execOp (ev n ρ) ⟨some d, op, ty, pos, af, none⟩).run P σ.w = .ok (.value v) σ'.w := h1
  rw [Oper.semAt_eq _ _ _ hnd, fr_eval, h1']
  simp only [Oper.uponIn_value, fr_put]
  exact k v σ' h2
theorem stI_exS {Rs : St → Prop} (hnd : ∀ c, op ≠ .defer c) (he : ExS P σ n ρ ⟨none, op, ty, pos, af, none⟩ Rs)
    (k : ∀ (σ' : St), Rs σ' → wpListIn (Fz r) 0 P ops Q rest (fr n ρ) σ'.w) : wpListIn (Fz r) 0 P ops Q (⟨none, op, ty, pos, af, none⟩ :: rest) (fr n ρ) σ.w := by
  obtain ⟨σ', h1, h2⟩ := he
  unfold wpListIn
  rw [if_pos (by rw [yielded_fr]; exact wanted_none _ rfl _)]
  refine ⟨fun _ _ => trivial, ?_⟩
  have h1' : (execOp (ev n ρ) ⟨none, op, ty, pos, af, none⟩).run P σ.w = .ok .skip σ'.w := h1
  rw [Oper.semAt_eq _ _ _ hnd, fr_eval, h1']
  simp only [Oper.uponIn_skip, fr_put_none]
  exact k σ' h2
theorem stI_yield {xs : Array Operand} {Ts : Array TypeId} {y : Operand} {l : Nat} {args : List Value} {R : Ending → World → Prop} (hf : ev n ρ y = .func (.yield l) #[] #[]) (hx : xs.toList.map (ev n ρ) = args) (hy : YieldAt Fence.wide 0 P l args.toArray w R)
    (k : ∀ e w', R e w' → ∃ v, e = .returned v ∧ wpListIn (Fz r) 0 P ops Q rest (fr n (upd ρ d v)) w') :
    wpListIn (Fz r) 0 P ops Q (⟨some d, .call ⟨.value y, xs, Ts⟩, ty, pos, af, none⟩ :: rest) (fr n ρ) w := by
  obtain ⟨fn, tmps, assign, body, h1, h2⟩ := hy
  unfold wpListIn
  rw [if_pos (by rw [yielded_fr]; exact wanted_none _ rfl _)]
  refine ⟨fun _ _ => trivial, ?_⟩
  rw [Oper.semAt_eq _ _ _ (fun c h => by cases h), fr_eval]
  have hx' : xs.map (ev n ρ) = args.toArray := by rw [← hx, ← Array.toList_map]
  have h3 : (execOp (ev n ρ) ⟨some d, .call ⟨.value y, xs, Ts⟩, ty, pos, af, none⟩).run P w = .ok (.round l fn tmps assign body) w := by
    simp only [execOp, resolve, hf, Deferred.ofValue, Sem.run_bind, Sem.run_pure, Result.andThen_ok, invoke, hx']
    simp [h1]
  rw [h3, Oper.uponIn_round]
  refine ⟨fun h => (by cases h), ?_⟩
  have h2' : RoundIn (Fz r) 0 P l fn tmps assign body w R := h2
  refine h2'.mono ?_
  intro e w' hR
  obtain ⟨v, rfl, hk⟩ := k e w' hR
  simp only [fr_put]
  exact hk
theorem endI (h : Q .normal (fr n ρ) w) : wpListIn (Fz r) 0 P ops Q [] (fr n ρ) w := h
theorem rgI {id : Nat} {l : List Oper} (h : wpListIn (Fz r) 0 P l.toArray Q l (fr n ρ) w) : (Code.region id l.toArray false).wpIn (Fz r) 0 P Q (fr n ρ) w := wpIn_region_lit h
theorem cdI_cond {c : Operand} {x y : Code} (b : Bool) (hc : ev n ρ c = .bool b) (ht : b = true → x.wpIn (Fz r) 0 P Q (fr n ρ) w) (hf : b = false → y.wpIn (Fz r) 0 P Q (fr n ρ) w) :
    (Code.cond c x y).wpIn (Fz r) 0 P Q (fr n ρ) w := wpIn_cond_split (by rw [fr_eval]; exact hc) ht hf
end

def Ch.lp (l : Nat) (r : Loop) : Ch where
  dup := false
  fp i := i = l
  as σ := σ.w.heap[l]? = some (.loop r) ∧ σ.vis l = 0
  hdup h := by cases h
  hlt h i e := by subst e; exact lt_of_block h.1
  hst m hd h := by
    have hb := lt_of_block h.1
    have hS := hd l rfl
    exact ⟨(m.block l hb hS).trans h.1, (m.vis l hb hS).trans h.2⟩
def Ch.df (l : Nat) : Ch where
  dup := false
  fp i := i = l
  as σ := σ.w.heap[l]? = some (.deferred (some [])) ∧ σ.vis l = 0
  hdup h := by cases h
  hlt h i e := by subst e; exact lt_of_block h.1
  hst m hd h := by
    have hb := lt_of_block h.1
    have hS := hd l rfl
    exact ⟨(m.block l hb hS).trans h.1, (m.vis l hb hS).trans h.2⟩

section
variable {P : Program} {S0 : BS} {σ0 σ : St} {L : List Ch}
theorem Hp.newLp (H : Hp S0 σ0 σ L) (r : Loop) : Hp S0 σ0 (σ.new (.loop r) 0) (Ch.lp σ.size r :: L) :=
  Hp.frame0 (A' := [Ch.lp σ.size r]) H (Hp.fresh (St.new_mod _ _ _) _ ⟨St.new_new _ _ _, St.new_vis _ _ _⟩ (fun b hb => Nat.le_of_eq (Eq.symm hb)))
theorem Hp.newDf (H : Hp S0 σ0 σ L) : Hp S0 σ0 (σ.new (.deferred (some [])) 0) (Ch.df σ.size :: L) :=
  Hp.frame0 (A' := [Ch.df σ.size]) H (Hp.fresh (St.new_mod _ _ _) _ ⟨St.new_new _ _ _, St.new_vis _ _ _⟩ (fun b hb => Nat.le_of_eq (Eq.symm hb)))
theorem Hp.setLp {l : Nat} {r : Loop} (H : Hp S0 σ0 σ (Ch.lp l r :: L)) (r' : Loop) : Hp S0 σ0 (σ.put l (.loop r')) (Ch.lp l r' :: L) := by
  have h := H.all.1
  refine Hp.frame1 (A' := [Ch.lp l r']) H (Hp.one ((St.put_mod h.2).md.mono fun i hi => .inl ?_) ⟨World.put_at _ (lt_of_block h.1), h.2⟩ (fun b hb _ => .inl hb))
  exact (Option.some.inj hi).symm
theorem Hp.putDf {l : Nat} (H : Hp S0 σ0 σ (Ch.df l :: L)) (o : Obj) : Hp S0 σ0 (σ.put l o) L := by
  have h := H.all.1
  refine Hp.frame1 (A' := []) H ⟨(St.put_mod h.2).md.mono fun i hi => .inl ?_, trivial, trivial, fun b hb => hb.elim⟩
  exact (Option.some.inj hi).symm

theorem Hp.drop : ∀ (R : List Ch) {L : List Ch}, Hp S0 σ0 σ (R ++ L) → Hp S0 σ0 σ L
  | [], _, H => H
  | _ :: R, _, H => Hp.drop R H.tail
theorem wp_rangeF {g : Operand} {ps : Array Tmp} {assign body : Code} {Q : Exit → Act → World → Prop} {a : Act} {gf : Nat} {lb : Array Value} {N : Nat} {encs : Nat → Array Value}
    (hg : a.eval g = .func (.func gf) #[] lb) (eg : ∀ args w, (callFunc gf args).run P w = .ok (.enter gf args) w) (hps : ∀ i, i < N → (encs i).size = ps.size)
    (K : Nat → List Ch → Prop) (hK : K 0 L) (H : Hp S0 σ0 σ L)
    (hseq : ∀ (l : Nat) (J : Nat → St → Prop), (∀ {i σ σ'}, J i σ → Md (fun _ => False) σ σ' → J i σ') → (∀ {i σ}, J i σ → ∃ L R, K i L ∧ Hp S0 σ0 σ (R ++ L)) →
      (∀ i, i < N → ∀ σ, J i σ → YieldAt Fence.wide 0 P l (encs i) σ.w fun e W' => e = .returned (.bool true) ∧ ∃ σ', W' = σ'.w ∧ J (i + 1) σ') →
      ∀ σ, J 0 σ → CallsIn Fence.wide 0 P gf (#[.func (.yield l) #[] #[]] ++ lb) σ.w fun e W' => (∃ v, e = .returned v) ∧ ∃ σ', W' = σ'.w ∧ J N σ')
    (hbody : ∀ (l D i : Nat) (r r' : Loop), i < N → ∀ σ L, K i L → Hp S0 σ0 σ (Ch.lp l r :: Ch.df D :: L) →
      assign.wpIn (Fz (some l)) 0 P (Exit.then (fun a₁ w₁ => ∃ σ1 L1, w₁ = σ1.w ∧ Hp S0 σ0 σ1 (Ch.lp l r :: Ch.df D :: L1) ∧ ∀ σ2, Hp S0 σ0 σ2 (Ch.lp l r' :: Ch.df D :: L1) →
        body.wpIn (Fz (some l)) 0 P (fun e _ w => e = .normal ∧ ∃ σ3 L3, w = σ3.w ∧ K (i + 1) L3 ∧ Hp S0 σ0 σ3 (Ch.lp l r' :: Ch.df D :: L3)) a₁ σ2.w) (fun _ _ _ => False))
        { tmps := (ps.zip (encs i)).foldl (fun t (p, v) => t.setIfInBounds p v) a.tmps, defers := [] } σ.w)
    (hdone : ∀ (D : Nat) σ' L', K N L' → Hp S0 σ0 σ' (Ch.df D :: L') → Q .normal { a with defers := { target := .collected D, args := #[] } :: a.defers } σ'.w) :
    (Code.rangeFunc g ps assign body).wpIn (Fz none) 0 P Q a σ.w := by
  refine wpIn_rangeFunc ?_
  intro fn hfn
  obtain ⟨rec, hrec⟩ : ∃ rec : LoopState → Option Code → Loop, rec = fun st pe => { state := st, pending := pe, fn, tmps := a.tmps, params := ps, assign, body, defers := σ.w.heap.size } := ⟨_, rfl⟩
  have H1 := (H.newDf).newLp (rec .ready none)
  generalize hσ1 : (σ.new (.deferred (some [])) 0).new (.loop (rec .ready none)) 0 = σ1 at H1
  have hs : (σ.new (.deferred (some [])) 0).size = σ.w.heap.size + 1 := St.new_size _ _ _
  rw [hs] at H1
  have hsz : σ.size = σ.w.heap.size := rfl
  rw [hsz] at H1
  generalize hl : σ.w.heap.size + 1 = l at *
  generalize hD : σ.w.heap.size = D at *
  refine ⟨l, [{ target := .collected D, args := #[] }], σ1.w, { target := .fn (.func gf) lb, args := #[.func (.yield l) #[] #[]] }, σ1.w, gf, #[.func (.yield l) #[] #[]] ++ lb, σ1.w, ?_, ?_, ?_, ?_, fun h => (by cases h), ?_⟩
  · have := run_enterLoop_outer (P := P) (w := σ.w) fn a.tmps ps assign body
    rw [this, ← hσ1, hrec, hD, hl]
    rfl
  · simp only [resolve, hg]
    simp [go_sem]
  · intro f' hf'; trivial
  · simp [invoke, go_sem, eg]
  · refine (hseq l (fun i σ => ∃ L, K i L ∧ Hp S0 σ0 σ (Ch.lp l (rec .ready none) :: Ch.df D :: L)) (fun ⟨L, h1, h2⟩ m => ⟨L, h1, h2.grow m⟩) (fun ⟨L, h1, h2⟩ => ⟨L, [_, _], h1, h2⟩) ?_ σ1 ⟨L, hK, H1⟩).mono ?_
    · rintro i hi σ2 ⟨L2, hK2, H2⟩
      have hl2 := H2.all.1.1
      have hy := run_yield (P := P) (args := encs i) hl2 (by rw [hrec]; exact hps i hi)
      rw [hrec] at hy
      refine ⟨fn, _, assign, body, hy, roundIn_of_wpIn hfn ?_⟩
      refine wpIn_mono (hbody l D i (rec .ready none) { rec .ready none with state := .busy } hi σ2 L2 hK2 H2) ?_
      intro e a1 w1 hq
      cases e with
      | normal =>
        obtain ⟨σ3, L3, rfl, H3, hb⟩ := hq
        refine ⟨_, run_beginRound H3.all.1.1 (by rw [hrec]), ?_⟩
        have H4 := H3.setLp { rec .ready none with state := .busy }
        refine wpIn_mono (hb _ H4) ?_
        rintro e a3 w3 ⟨rfl, σ5, L5, rfl, hK5, H5⟩
        refine ⟨_, _, run_endRound none H5.all.1.1, rfl, σ5.put l (.loop (rec .ready none)), ?_, L5, hK5, H5.setLp _⟩
        rw [hrec]; rfl
      | ret => exact hq.elim
      | exit id => exact hq.elim
      | goto t => exact hq.elim
      | panic ch => exact hq.elim
      | outgrown => exact hq.elim
    · rintro e W2 ⟨⟨v, rfl⟩, σ2, rfl, L2, hK2, H2⟩
      refine ⟨none, _, ?_, hdone D _ L2 hK2 (H2.setLp { rec .ready none with state := .exhausted }).tail⟩
      have := run_endLoop (P := P) H2.all.1.1 (by rw [hrec]; simp)
      rw [hrec] at this ⊢
      exact this
end

theorem gidx_at {α : Type} {xs : List α} {i : Nat} (h : i < xs.length) : gidx xs (i : Int) = some xs[i] := by
  unfold gidx
  rw [if_pos (by omega)]
  simp [h]
noncomputable def M.coll {α : Type} (xs : List α) : Option (List α) := if xs.length ≤ 2147483648 then some xs else none
theorem coll_some {α : Type} {xs r : List α} (h : M.coll xs = some r) : xs.length ≤ 2147483648 ∧ r = xs := by
  unfold M.coll at h; split at h
  · exact ⟨by assumption, (Option.some.inj h).symm⟩
  · cases h
theorem take_gapp {α : Type} {xs : List α} {i : Nat} (h : i < xs.length) (hn : xs.length ≤ 2147483648) : gapp (xs.take i) [xs[i]] = some (xs.take (i + 1)) := by
  unfold gapp
  rw [if_pos (by simp; omega), List.take_succ_eq_append_getElem h]

/-! ## Into and out of functions with such a statement -/
section
variable {P : Program} {ops : Array Oper} {Q : Exit → Act → World → Prop} {n d : Nat} {ρ : Nat → Value} {σ σ0 : St} {w : World} {v : Value} {rest : List Oper} {r : Option Nat} {S0 : BS} {L : List Ch}
variable {op : Op} {ty : TypeId} {pos : String} {af : Array Edge}
def frd (n : Nat) (ds : List Deferred) (ρ : Nat → Value) : Act := { fr n ρ with defers := ds }
theorem frd_eval {ds : List Deferred} : (frd n ds ρ).eval = (fr n ρ).eval := by funext x; cases x <;> rfl
theorem frd_put {ds : List Deferred} : (frd n ds ρ).put (some d) v = frd n ds (upd ρ d v) := by
  have := fr_put n ρ d v
  unfold frd
  simp only [Act.put] at this ⊢
  rw [← this]
theorem stD {ds : List Deferred} (hnd : ∀ c, op ≠ .defer c) (hr : RunV P w.heap n ρ ⟨some d, op, ty, pos, af, none⟩ v) (k : wpListIn (Fz r) 0 P ops Q rest (frd n ds (upd ρ d v)) w) :
    wpListIn (Fz r) 0 P ops Q (⟨some d, op, ty, pos, af, none⟩ :: rest) (frd n ds ρ) w := by
  unfold wpListIn
  rw [if_pos (wanted_none _ rfl _)]
  refine ⟨fun _ _ => trivial, ?_⟩
  rw [Oper.semAt_eq _ _ _ hnd, frd_eval, fr_eval, hr w rfl]
  simp only [Oper.uponIn_value, frd_put]
  exact k
theorem endD {ds : List Deferred} (h : Q .normal (frd n ds ρ) w) : wpListIn (Fz r) 0 P ops Q [] (frd n ds ρ) w := h
theorem rgD {id : Nat} {l : List Oper} {ds : List Deferred} (h : wpListIn (Fz r) 0 P l.toArray Q l (frd n ds ρ) w) : (Code.region id l.toArray false).wpIn (Fz r) 0 P Q (frd n ds ρ) w := wpIn_region_lit h
theorem round_fr {p : Nat} : ({ tmps := (Array.zip #[p] #[v]).foldl (fun t (p, v) => t.setIfInBounds p v) (fr n ρ).tmps, defers := [] } : Act) = fr n (upd ρ p v) := by
  rw [← fr_put]
  have : (Array.zip #[p] #[v]) = #[(p, v)] := by simp
  simp [this, Act.put, fr]
theorem eg_of {f : FuncId} (hf : ∃ fn c, P.funcs[f]? = some fn ∧ (fn.name == "runtime.NumGoroutine") = false ∧ fn.body = some c) (args : Array Value) (w : World) : (callFunc f args).run P w = .ok (.enter f args) w := by
  obtain ⟨fn, c, h1, h2, h3⟩ := hf
  simp only [callFunc, Sem.run_bind, run_program, Result.andThen_ok, h1, h2, h3]
  simp
theorem enterI {f : FuncId} {fn : Func} {c : Code} {l : List Value} {R : Ending → World → Prop} (hf : P.funcs[f]? = some fn) (hb : fn.body = some c) (hn : fn.ntmps = n) (hl : Nat.ble l.length n = true)
    (h : c.wpIn (Fz none) 0 P (bodyPostM Fence.wide 0 P fn R) (fr n (argsρ l)) w) : CallsIn Fence.wide 0 P f l.toArray w R := by
  refine callsIn_of_wp_marks hf hb trivial ?_
  have := fr_args l n (by simpa using hl)
  simp only [List.size_toArray, hn, this]
  exact h
theorem fin_plain' {fn : Func} {R : Ending → World → Prop} (hr : (results fn (fr n ρ).tmps).run P w = .ok v w) (hp : R (.returned v) w) : bodyPostM Fence.wide 0 P fn R .normal (fr n ρ) w := ⟨v, hr, hp⟩
theorem fin_mark {fn : Func} {R : Ending → World → Prop} {D : Nat} (H : Hp S0 σ0 σ (Ch.df D :: L)) (hr : (results fn (fr n ρ).tmps).run P (σ.put D (.deferred none)).w = .ok v (σ.put D (.deferred none)).w) (hp : R (.returned v) (σ.put D (.deferred none)).w) :
    bodyPostM Fence.wide 0 P fn R .ret (frd n [{ target := .collected D, args := #[] }] ρ) σ.w :=
  ⟨by simp, .inl ⟨D, _, rfl, run_takeDeferred H.all.1.1, v, hr, hp⟩⟩
end
end Go.Vs

namespace Go.Vs
open Go

inductive Tr (α : Type) where
  | nil
  | node (x : α) (n : Int) (l r : Tr α)
def Tr.get {α : Type} : Tr α → Option (α × Int × Tr α × Tr α)
  | .nil => none
  | .node x n l r => some (x, n, l, r)
def Tr.isNil {α : Type} : Tr α → Bool
  | .nil => true
  | .node .. => false
def Tr.mk {α : Type} (p : α × Int × Tr α × Tr α) : Tr α := .node p.1 p.2.1 p.2.2.1 p.2.2.2
section
variable {α : Type} [Rp α]
def RT (lo : Nat) (σ : St) : Value → Tr α → Prop
  | v, .nil => v = .pointer none
  | v, .node x n l r => ∃ b o c vl vr, v = pt b o ∧ lo ≤ b ∧ o + (Rp.sz α + 3) ≤ σ.vis b ∧ Rp.rp lo σ c x ∧ RT lo σ vl l ∧ RT lo σ vr r ∧
      ∀ j, (h : j < (c ++ [I n, vl, vr]).length) → σ.cell b (o + j) = some (c ++ [I n, vl, vr])[j]

theorem RT.plain {lo : Nat} {σ : St} {v : Value} {t : Tr α} (h : RT lo σ v t) : plain v = true := by
  cases t with
  | nil => rw [show v = .pointer none from h]; rfl
  | node x n l r => obtain ⟨b, o, c, vl, vr, rfl, _⟩ := h; rfl
theorem RT.extL {lo : Nat} {σ σ' : St} (hE : ExtL lo σ σ') : ∀ {t : Tr α} {v : Value}, RT lo σ v t → RT lo σ' v t
  | .nil, _, h => h
  | .node x n l r, _, ⟨b, o, c, vl, vr, h1, h2, h3, h4, h5, h6, h7⟩ => by
    refine ⟨b, o, c, vl, vr, h1, h2, Nat.le_trans h3 (hE.vis b h2), Rp.extL hE h4, RT.extL hE h5, RT.extL hE h6, fun j hj => ?_⟩
    have hl : (c ++ [I n, vl, vr]).length = Rp.sz α + 3 := by rw [List.length_append, Rp.len h4]; rfl
    rw [hE.cell b _ h2 (by omega)]
    exact h7 j hj
theorem RT.low {lo lo' : Nat} {σ : St} (hl : lo' ≤ lo) : ∀ {t : Tr α} {v : Value}, RT lo σ v t → RT lo' σ v t
  | .nil, _, h => h
  | .node x n l r, _, ⟨b, o, c, vl, vr, h1, h2, h3, h4, h5, h6, h7⟩ => ⟨b, o, c, vl, vr, h1, Nat.le_trans hl h2, h3, Rp.low hl h4, RT.low hl h5, RT.low hl h6, h7⟩
instance : Rp (Tr α) where
  sz := 1
  rp lo σ cs t := ∃ v, cs = [v] ∧ RT lo σ v t
  pos := by decide
  len := by rintro _ _ _ _ ⟨v, rfl, _⟩; rfl
  extL := by rintro _ _ _ _ _ hE ⟨v, rfl, h⟩; exact ⟨v, rfl, h.extL hE⟩
  low := by rintro _ _ _ _ _ hl ⟨v, rfl, h⟩; exact ⟨v, rfl, h.low hl⟩
  one := by
    rintro _ _ _ _ ⟨v, rfl, h⟩ c hc
    simp only [List.mem_singleton] at hc
    rw [hc]; exact h.plain

theorem RT.at' {lo : Nat} {σ : St} {v : Value} {t : Tr α} {p : α × Int × Tr α × Tr α} (h : RT lo σ v t) (hp : t.get = some p) : ∃ b o, v = pt b o ∧ At lo σ b o p := by
  cases t with
  | nil => cases hp
  | node x n l r =>
    cases hp
    obtain ⟨b, o, c, vl, vr, h1, h2, h3, h4, h5, h6, h7⟩ := h
    exact ⟨b, o, h1, c ++ [I n, vl, vr], ⟨c, [I n, vl, vr], rfl, h4, [I n], [vl, vr], rfl, rfl, [vl], [vr], rfl, ⟨vl, rfl, h5⟩, ⟨vr, rfl, h6⟩⟩, h7⟩

theorem RT.ex {lo : Nat} {σ : St} {v : Value} {t : Tr α} {p : α × Int × Tr α × Tr α} (h : RT lo σ v t) (hp : t.get = some p) : ∃ b o, v = pt b o := by
  obtain ⟨b, o, h, _⟩ := h.at' hp
  exact ⟨b, o, h⟩
theorem RT.at {lo : Nat} {σ : St} {v : Value} {t : Tr α} {p : α × Int × Tr α × Tr α} {b o : Nat} (h : RT lo σ v t) (hp : t.get = some p) (hv : v = pt b o) : At lo σ b o p := by
  obtain ⟨b', o', h1, h2⟩ := h.at' hp
  rw [hv] at h1
  cases h1
  exact h2
theorem RT.hmd {S : BS} {lo : Nat} {σ σ' : St} {v u : Value} {t : Tr α} {p : α × Int × Tr α × Tr α} {b o : Nat} (h : RT lo σ v t) (hp : t.get = some p) (hv : v = pt b o) {k : Nat} (hk : k < Rp.sz α + 3)
    (hc : HCell σ.w.heap b (o + k) = some u) (m : Md S σ σ') : HCell σ'.w.heap b (o + k) = some u := by
  cases t with
  | nil => cases hp
  | node x n l r =>
    obtain ⟨b', o', c, vl, vr, h1, h2, h3, _⟩ := h
    rw [hv] at h1
    cases h1
    rw [HCell_eq] at hc ⊢
    exact (m.ext.cell b (o + k) (by omega)).trans hc
def Ch.pr (el : Nat) (v : Value) (t : Tr α) : Ch where
  dup := true
  fp _ := False
  as σ := RT el σ v t
  hdup _ _ := id
  hlt _ _ h := h.elim
  hst m _ h := RT.extL (m.ext.extL el) h
variable {S0 : BS} {σ0 σ : St} {L R : List Ch} {el lo b i : Nat} {v : Value} {t : Tr α} {cs : List Value}
theorem Hp.pr (H : Hp S0 σ0 σ L) (i : Nat) (h : nth L i = some (Ch.pr el v t)) : RT el σ v t := H.get h
end

section
variable {α : Type} [Rp α] {P : Program} {H : Array Obj} {n lo : Nat} {ρ : Nat → Value} {d : Option Nat} {ty T T' : TypeId} {pos : String} {af : Array Edge} {gd : Option (Nat × Bool)} {x y : Operand} {v : Value} {t : Tr α} {σ : St}
end
end Go.Vs

namespace Go.Vs
open Go

instance : Rp Value where
  sz := 1
  rp _ _ cs x := cs = [x] ∧ plain x = true
  pos := by decide
  len := by rintro _ _ _ _ ⟨rfl, _⟩; rfl
  extL := fun _ h => h
  low := fun _ h => h
  one := by rintro _ _ _ _ ⟨rfl, h⟩; simpa using h
instance : Sc Value := ⟨fun h => h⟩

section
variable {S0 : BS} {σ0 σ : St} {L K R : List Ch} {c : Ch}
theorem Hp.bigCons (H : Hp S0 σ0 σ (c :: Ch.big K :: R)) : Hp S0 σ0 σ (Ch.big (c :: K) :: R) :=
  ⟨H.md, ⟨⟨⟨H.all.1, H.all.2.1.1⟩, ⟨fun b hb h => H.ap.1 b hb (.inl h), H.all.2.1.2⟩⟩, H.all.2.2⟩,
    ⟨fun b hb h => hb.elim (fun hb => H.ap.1 b hb (.inr h)) (fun hb => H.ap.2.1 b hb h), H.ap.2.2⟩,
    fun b hb => H.org b (hb.elim (fun hb => hb.elim .inl (fun hb => .inr (.inl hb))) (fun hb => .inr (.inr hb)))⟩
theorem Hp.bigSnoc (H : Hp S0 σ0 σ (c :: Ch.big K :: R)) : Hp S0 σ0 σ (Ch.big (K ++ [c]) :: R) :=
  ⟨H.md, ⟨⟨allAs_append.2 ⟨H.all.2.1.1, H.all.1, trivial⟩, apart_append.2 ⟨H.all.2.1.2, ⟨fun _ _ h => h, trivial⟩, fun b hb h => h.elim (fun h => H.ap.1 b h (.inl hb)) id⟩⟩, H.all.2.2⟩,
    ⟨fun b hb h => (cov_append.1 hb).elim (fun hb => H.ap.2.1 b hb h) (fun hb => hb.elim (fun hb => H.ap.1 b hb (.inr h)) id), H.ap.2.2⟩,
    fun b hb => H.org b (hb.elim (fun hb => (cov_append.1 hb).elim (fun hb => .inr (.inl hb)) (fun hb => hb.elim .inl (fun h => h.elim))) (fun hb => .inr (.inr hb)))⟩
theorem Hp.unbig (H : Hp S0 σ0 σ (Ch.big (c :: K) :: R)) : Hp S0 σ0 σ (c :: Ch.big K :: R) :=
  ⟨H.md, ⟨H.all.1.1.1, ⟨H.all.1.1.2, H.all.1.2.2⟩, H.all.2⟩,
    ⟨fun b hb h => h.elim (H.all.1.2.1 b hb) (H.ap.1 b (.inl hb)), ⟨fun b hb h => H.ap.1 b (.inr hb) h, H.ap.2⟩⟩,
    fun b hb => H.org b (hb.elim (fun hb => .inl (.inl hb)) (fun hb => hb.elim (fun hb => .inl (.inr hb)) .inr))⟩
end

class Dl (α : Type) (β : outParam Type) [Rp α] [Rp β] where
  sh : α → Value → β
  inn : α → List Int
  sz : Rp.sz α = Rp.sz β
  rp : ∀ {lo lo' : Nat} {σ : St} {cs : List Value} {x : α} {h : Value}, Rp.rp lo σ cs (sh x h) → RS lo' σ h (inn x) → Rp.rp lo' σ cs x
instance : Dl (List Int) Value where
  sh _ h := h
  inn x := x
  sz := rfl
  rp := by rintro _ _ _ _ _ _ ⟨rfl, _⟩ h; exact ⟨_, rfl, h⟩
instance : Dl (Int × List Int × Int) (Int × Value × Int) where
  sh x h := (x.1, h, x.2.2)
  inn x := x.2.1
  sz := rfl
  rp := by
    rintro _ _ _ _ _ _ ⟨_, _, rfl, h1, ⟨_, _, rfl, ⟨rfl, _⟩, h3⟩⟩ h
    exact ⟨_, _, rfl, h1, ⟨_, _, rfl, ⟨_, rfl, h⟩, h3⟩⟩

section
variable {α β : Type} [Rp α] [Rp β] [Dl α β]
def dsh (p : α × Value) : β := Dl.sh p.1 p.2
def dow (lo : Nat) (p : α × Value) : Ch := Ch.own lo lo p.2 (Dl.inn p.1)

structure Dp (lo : Nat) (v : Value) (xs : List α) (K : List Ch) : Prop where
  ex : ∃ ps : List (α × Value), xs = ps.map (·.1) ∧ K = Ch.own lo lo v (ps.map dsh) :: ps.map (dow lo)

end

/-! ## Filling -/
end Go.Vs

namespace Go.Vs
open Go

/-! ## What maps hold -/
section
variable {α : Type}
def mput (m : List (Int × List α)) (k : Int) (xs : List α) : List (Int × List α) := match m with
  | [] => [(k, xs)]
  | p :: r => if p.1 = k then (k, xs) :: r else p :: mput r k xs
end
def vfind : List (Int × Value) → Int → Nat → Option (Nat × Value)
  | [], _, _ => none
  | p :: r, k, i => if k = p.1 then some (i, p.2) else vfind r k (i + 1)
def EntsL (es : List (Int × Value)) (E : List MapEntry) : Prop := E.map (fun e => (e.key, e.val)) = es.map (fun p => (I p.1, p.2))
theorem findNow_ok (k : Int) : ∀ (E : List MapEntry) (es : List (Int × Value)) (i : Nat), EntsL es E → Instr.findNow (.int .i64) (I k) E i = some (vfind es k i)
  | [], [], _, _ => rfl
  | [], _ :: _, _, h => by simp [EntsL] at h
  | _ :: _, [], _, h => by simp [EntsL] at h
  | e :: E, p :: es, i, h => by
    simp only [EntsL, List.map_cons, List.cons.injEq, Prod.mk.injEq] at h
    obtain ⟨⟨h1, h2⟩, h3⟩ := h
    have hs : Instr.sameNow (.int .i64) (I k) (I p.1) = some (k == p.1) := rfl
    unfold Instr.findNow vfind
    rw [h1, hs]
    by_cases hk : k = p.1
    · subst hk; simp [h2]
    · have : (k == p.1) = false := by simpa using hk
      rw [this, if_neg hk]
      exact findNow_ok k E es (i + 1) h3
theorem vfind_none {es : List (Int × Value)} {k : Int} : ∀ {i : Nat}, (∀ p ∈ es, p.1 ≠ k) → vfind es k i = none := by
  induction es with
  | nil => intro _ _; rfl
  | cons p r ih =>
    intro i h
    unfold vfind
    rw [if_neg (fun e => h p (by simp) e.symm)]
    exact ih (fun q hq => h q (by simp [hq]))
theorem vfind_some {A B : List (Int × Value)} {k : Int} {v : Value} : ∀ {i : Nat}, (∀ p ∈ A, p.1 ≠ k) → vfind (A ++ (k, v) :: B) k i = some (i + A.length, v) := by
  induction A with
  | nil => intro i _; simp [vfind]
  | cons p r ih =>
    intro i h
    simp only [List.cons_append]
    unfold vfind
    rw [if_neg (fun e => h p (by simp) e.symm), ih (fun q hq => h q (by simp [hq]))]
    simp; omega

/-! ## Chunks -/
def Ch.mp (lo b : Nat) (es : List (Int × Value)) : Ch where
  dup := false
  fp i := i = b
  as σ := (∃ E clk, σ.w.heap[b]? = some (.map E clk) ∧ EntsL es E.toList) ∧ σ.vis b = 0 ∧ lo ≤ b
  hdup h := by cases h
  hlt h i e := by subst e; obtain ⟨⟨E, clk, h1, _⟩, _⟩ := h; exact lt_of_block h1
  hst m hd h := by
    obtain ⟨⟨E, clk, h1, h2⟩, h3, h4⟩ := h
    have hb := lt_of_block h1
    have hS := hd _ rfl
    exact ⟨⟨E, clk, (m.block _ hb hS).trans h1, h2⟩, (m.vis _ hb hS).trans h3, h4⟩

section
variable {α : Type} [Rp α]
abbrev Pm (α : Type) := Int × Value × List α
def pmE (p : Pm α) : Int × Value := (p.1, p.2.1)
def pmM (p : Pm α) : Int × List α := (p.1, p.2.2)
def pmC (lo el : Nat) (p : Pm α) : Ch := Ch.own lo el p.2.1 p.2.2
structure Mp (lo el b : Nat) (m : List (Int × List α)) (K : List Ch) : Prop where
  ex : ∃ ps : List (Pm α), m = ps.map pmM ∧ K = Ch.mp lo b (ps.map pmE) :: ps.map (pmC lo el)
structure MpH (lo el b : Nat) (m : List (Int × List α)) (k : Int) (v : Value) (K : List Ch) : Prop where
  ex : (∃ (A : List (Pm α)) (xs : List α) (B : List (Pm α)), (∀ q ∈ A, q.1 ≠ k) ∧ m = (A ++ (k, v, xs) :: B).map pmM ∧ K = Ch.mp lo b ((A ++ (k, v, xs) :: B).map pmE) :: (A ++ B).map (pmC lo el)) ∨
    ∃ ps : List (Pm α), (∀ q ∈ ps, q.1 ≠ k) ∧ v = .slice none 0 0 ∧ m = ps.map pmM ∧ K = Ch.mp lo b (ps.map pmE) :: ps.map (pmC lo el)
theorem Mp.nil {lo el b : Nat} : Mp (α := α) lo el b [] [Ch.mp lo b []] := ⟨⟨[], rfl, rfl⟩⟩

omit [Rp α] in
theorem mput_some {A B : List (Pm α)} {k : Int} {v v' : Value} {xs ys : List α} (h : ∀ q ∈ A, q.1 ≠ k) : mput ((A ++ (k, v, xs) :: B).map pmM) k ys = (A ++ (k, v', ys) :: B).map pmM := by
  induction A with
  | nil => simp [mput, pmM]
  | cons p r ih =>
    simp only [List.cons_append, List.map_cons]
    unfold mput
    rw [if_neg (show (pmM p).1 ≠ k from h p (by simp)), ih (fun q hq => h q (by simp [hq]))]
omit [Rp α] in
theorem mput_none {ps : List (Pm α)} {k : Int} {v' : Value} {ys : List α} (h : ∀ q ∈ ps, q.1 ≠ k) : mput (ps.map pmM) k ys = (ps ++ [(k, v', ys)]).map pmM := by
  induction ps with
  | nil => rfl
  | cons p r ih =>
    simp only [List.cons_append, List.map_cons]
    unfold mput
    rw [if_neg (show (pmM p).1 ≠ k from h p (by simp)), ih (fun q hq => h q (by simp [hq]))]
end

section
variable {S0 : BS} {σ0 σ σ' : St} {L K R A B : List Ch} {c : Ch}
theorem Hp.bigPut (H : Hp S0 σ0 σ (c :: Ch.big (A ++ B) :: R)) : Hp S0 σ0 σ (Ch.big (A ++ c :: B) :: R) := by
  obtain ⟨⟨h0, ⟨h1, h2⟩, h3⟩, ⟨h4, h5, h6⟩⟩ := And.intro H.all H.ap
  obtain ⟨a1, a2⟩ := allAs_append.1 h1
  obtain ⟨p1, p2, p3⟩ := apart_append.1 h2
  refine ⟨H.md, ⟨⟨allAs_append.2 ⟨a1, h0, a2⟩, apart_append.2 ⟨p1, ⟨fun b hb h => h4 b hb (.inl (cov_append.2 (.inr h))), p2⟩, fun b hb h => ?_⟩⟩, h3⟩, ⟨fun b hb h => ?_, h6⟩, fun b hb => H.org b ?_⟩
  · rcases h with h | h
    · exact h4 b h (.inl (cov_append.2 (.inl hb)))
    · exact p3 b hb h
  · rcases cov_append.1 hb with hb | hb | hb
    · exact h5 b (cov_append.2 (.inl hb)) h
    · exact h4 b hb (.inr h)
    · exact h5 b (cov_append.2 (.inr hb)) h
  · rcases hb with hb | hb
    · rcases cov_append.1 hb with hb | hb | hb
      · exact .inr (.inl (cov_append.2 (.inl hb)))
      · exact .inl hb
      · exact .inr (.inl (cov_append.2 (.inr hb)))
    · exact .inr (.inr hb)
end

/-! ## Taking a value out -/
section
variable {α : Type} [Rp α] {S0 : BS} {σ0 σ σ' : St} {L K R : List Ch} {lo el b i : Nat} {m : List (Int × List α)} {k : Int} {v : Value}
def LkH (H : Array Obj) (b : Nat) (k : Int) (v : Value) : Prop := ∃ E clk es, H[b]? = some (.map E clk) ∧ EntsL es E.toList ∧ ((∃ i, vfind es k 0 = some (i, v)) ∨ (vfind es k 0 = none ∧ v = .slice none 0 0))
theorem LkH.md {S : BS} (h : LkH σ.w.heap b k v) (m : Md S σ σ') (hb : ¬ S b) : LkH σ'.w.heap b k v := by
  obtain ⟨E, clk, es, h1, h2⟩ := h
  exact ⟨E, clk, es, (m.block b (lt_of_block h1) hb).trans h1, h2⟩
omit [Rp α] in
theorem pmE_ne {ps : List (Pm α)} (h : ∀ q ∈ ps, q.1 ≠ k) : ∀ p ∈ ps.map pmE, p.1 ≠ k := by
  intro p hp
  obtain ⟨q, hq, rfl⟩ := List.mem_map.1 hp
  exact h q hq
theorem MpH.look (h : MpH lo el b m k v K) (H : Hp S0 σ0 σ L) (i : Nat) (hn : nth L i = some (Ch.big K)) : LkH σ.w.heap b k v := by
  have hb : allAs σ K ∧ apart K := H.get hn
  rcases h.ex with ⟨A, xs, B, hA, -, rfl⟩ | ⟨ps, hps, rfl, -, rfl⟩
  · obtain ⟨⟨E, clk, h1, h2⟩, _⟩ := hb.1.1
    refine ⟨E, clk, _, h1, h2, .inl ⟨0 + (A.map pmE).length, ?_⟩⟩
    rw [List.map_append, List.map_cons]
    exact vfind_some (pmE_ne hA)
  · obtain ⟨⟨E, clk, h1, h2⟩, _⟩ := hb.1.1
    exact ⟨E, clk, _, h1, h2, .inr ⟨vfind_none (pmE_ne hps), rfl⟩⟩
end

/-! ## Operations -/
theorem run_getMap {P : Program} {w : World} {r : Nat} {E : Array MapEntry} {clk : Nat} (h : w.heap[r]? = some (.map E clk)) : (getObj r).run P w = .ok (.map E clk) w := by
  simp only [getObj, Sem.run, h]
theorem run_setMap {P : Program} {w : World} {r : Nat} {E E' : Array MapEntry} {clk clk' : Nat} (h : w.heap[r]? = some (.map E clk)) : (setObj r (.map E' clk')).run P w = .ok () (World.put w r (.map E' clk')) := by
  simp only [setObj, Sem.run, h]; rfl
theorem run_findKey {P : Program} {w : World} {T : TypeId} {k : Int} {E : List MapEntry} {es : List (Int × Value)} (hT : P.underlying T = some (.int .i64)) (h : EntsL es E) : (Instr.findKey T (I k) E).run P w = .ok (vfind es k 0) w := by
  simp only [Instr.findKey, underlying, Sem.run_bind, run_program, Result.andThen_ok, hT, Sem.run_pure, findNow_ok k E es 0 h]
theorem run_checkKey {P : Program} {w : World} {T : TypeId} {k : Int} {e : Bool} (hT : P.underlying T = some (.int .i64)) : (Instr.checkKey e 10000 T (I k)).run P w = .ok () w := by
  show (Instr.checkKey e (9999 + 1) T (I k)).run P w = _
  unfold Instr.checkKey
  simp only [underlying, Sem.run_bind, run_program, Result.andThen_ok, hT, Sem.run_pure]
section
variable {P : Program} {n : Nat} {ρ : Nat → Value} {dst : Option Nat} {ty T Tk Te : TypeId} {pos : String} {af : Array Edge} {gd : Option (Nat × Bool)} {x y z : Operand} {v v' : Value} {b s bt lo el : Nat} {k : Int} {H : Array Obj}
variable {α : Type} [Rp α] {S0 : BS} {σ0 σ σ' : St} {L K R : List Ch} {m : List (Int × List α)} {xs : List α}
theorem ents_set {A B : List (Int × Value)} {k : Int} {v v' : Value} {E : Array MapEntry} (h : EntsL (A ++ (k, v) :: B) E.toList) :
    EntsL (A ++ (k, v') :: B) (E.modify A.length fun e => { e with key := I k, val := v' }).toList := by
  unfold EntsL at h ⊢
  rw [Array.toList_modify]
  have hl : A.length < E.toList.length := by
    have := congrArg List.length h
    simp at this ⊢; omega
  apply List.ext_getElem
  · have := congrArg List.length h
    simp at this ⊢; omega
  intro i h1 h2
  simp only [List.getElem_map, List.getElem_modify]
  have hi : i < E.toList.length := by simpa using h1
  have he : ((E.toList.map fun e => (e.key, e.val)))[i]'(by simpa using hi) = (((A ++ (k, v) :: B).map fun p => (I p.1, p.2)))[i]'(by rw [← h]; simpa using hi) := by simp only [h]
  simp only [List.getElem_map] at he
  by_cases hA : A.length = i
  · subst hA
    rw [if_pos rfl]
    simp
  · rw [if_neg hA, he]
    rcases Nat.lt_or_ge i A.length with hlt | hge
    · rw [List.getElem_append_left hlt, List.getElem_append_left hlt]
    · rw [List.getElem_append_right hge, List.getElem_append_right hge]
      obtain ⟨j, hj⟩ : ∃ j, i - A.length = j + 1 := ⟨i - A.length - 1, by omega⟩
      simp only [hj, List.getElem_cons_succ]
theorem ents_push {A : List (Int × Value)} {k : Int} {v' : Value} {E : Array MapEntry} {c : Nat} (h : EntsL A E.toList) : EntsL (A ++ [(k, v')]) (E.push { key := I k, val := v', born := c }).toList := by
  unfold EntsL at h ⊢
  simp [h]
theorem run_mapUpdate {w : World} {E : Array MapEntry} {clk : Nat} {es es' : List (Int × Value)} (hT : P.underlying T = some (.map Tk Te)) (hk : P.underlying Tk = some (.int .i64)) (h1 : w.heap[b]? = some (.map E clk)) (h2 : EntsL es E.toList)
    (h3 : (∃ A v B, es = A ++ (k, v) :: B ∧ (∀ p ∈ A, p.1 ≠ k) ∧ es' = A ++ (k, v') :: B) ∨ ((∀ p ∈ es, p.1 ≠ k) ∧ es' = es ++ [(k, v')])) :
    ∃ E' clk', (Instr.mapUpdate T (.map (some b)) (I k) v').run P w = .ok () (World.put w b (.map E' clk')) ∧ EntsL es' E'.toList := by
  have e1 := run_getMap (P := P) h1
  have e2 := run_checkKey (P := P) (w := w) (k := k) (e := false) hk
  have e3 := run_findKey (P := P) (w := w) (k := k) hk h2
  rcases h3 with ⟨A, v, B, rfl, hA, rfl⟩ | ⟨hn, rfl⟩
  · rw [vfind_some hA] at e3
    refine ⟨_, clk, ?_, ents_set (v' := v') h2⟩
    have hkey : ((E[A.length]?).map (·.key)).getD (I k) = I k := by
      have hl : A.length < E.toList.length := by
        have := congrArg List.length h2
        simp at this ⊢; omega
      have he : ((E.toList.map fun e => (e.key, e.val)))[A.length]'(by simpa using hl) = (((A ++ (k, v) :: B).map fun p => (I p.1, p.2)))[A.length]'(by simp) := by
        have h2' : E.toList.map (fun e => (e.key, e.val)) = (A ++ (k, v) :: B).map (fun p => (I p.1, p.2)) := h2
        simp only [h2']
      simp only [List.getElem_map, List.getElem_append_right (Nat.le_refl _), Nat.sub_self, List.getElem_cons_zero, Prod.mk.injEq] at he
      have hs : A.length < E.size := by simpa using hl
      rw [Array.getElem?_eq_getElem hs]
      simpa using he.1
    have hstay : (Instr.keyThatStays (I k) (I k)).run P w = .ok (I k) w := by
      have : Instr.sameBits 10000 (I k) (I k) = true := by
        show Instr.sameBits (9999 + 1) (.int .i64 k) (.int .i64 k) = true
        unfold Instr.sameBits; simp
      simp only [Instr.keyThatStays, this, if_true, Sem.run_pure]
    simp only [Nat.zero_add] at e3
    simp only [Instr.mapUpdate, underlying, Sem.run_bind, run_program, Result.andThen_ok, hT, Sem.run_pure, e1, e2, e3, hkey, hstay, run_setMap h1]
  · rw [vfind_none hn] at e3
    refine ⟨_, clk + 1, ?_, ents_push (v' := v') (c := clk) h2⟩
    simp only [Instr.mapUpdate, underlying, Sem.run_bind, run_program, Result.andThen_ok, hT, Sem.run_pure, e1, e2, e3, run_setMap h1]
theorem turn_mp {es es' : List (Int × Value)} {E' : Array MapEntry} {clk' : Nat} (Hh : Hp S0 σ0 σ (Ch.mp lo b es :: R)) (h2 : EntsL es' E'.toList) :
    Hp S0 σ0 (σ.put b (.map E' clk')) (Ch.mp lo b es' :: R) ∧ Md (fun i => i = b) σ (σ.put b (.map E' clk')) := by
  obtain ⟨⟨E, clk, h1, _⟩, h3, h4⟩ := Hh.head
  have hb := lt_of_block h1
  have m : Md (fun i => i = b) σ (σ.put b (.map E' clk')) := (St.put_mod h3).md.mono fun i hi => by cases hi; rfl
  exact ⟨Hp.frame1 (A' := [Ch.mp lo b es']) Hh (Hp.one (m.mono fun i hi => .inl hi) ⟨⟨E', clk', World.put_at _ hb, h2⟩, h3, h4⟩ (fun i hi _ => .inl hi)), m⟩
theorem MpH.put (hK : MpH lo el b m k v K) (v' : Value) (ys : List α) : ∃ K2, Mp lo el b (mput m k ys) K2 ∧ ∀ {P : Program} {n : Nat} {ρ : Nat → Value} {dst : Option Nat} {ty T Tk Te : TypeId} {pos : String} {af : Array Edge} {gd : Option (Nat × Bool)} {x y z : Operand} {S0 : BS} {σ0 σ : St} {R : List Ch},
    Hp S0 σ0 σ (Ch.big K :: Ch.own lo el v' ys :: R) → P.underlying T = some (.map Tk Te) → P.underlying Tk = some (.int .i64) → ev n ρ x = .map (some b) → ev n ρ y = I k → ev n ρ z = v' →
    ExS P σ n ρ ⟨dst, .mapUpdate T x y z, ty, pos, af, gd⟩ fun σ' => Hp S0 σ0 σ' (Ch.big K2 :: R) ∧ Md (fun i => i = b) σ σ' := by
  have swap : ∀ {S0 : BS} {σ0 σ : St} {c d : Ch} {R : List Ch}, Hp S0 σ0 σ (c :: d :: R) → Hp S0 σ0 σ (d :: c :: R) := fun H => H.front (i := 1) rfl
  rcases hK.ex with ⟨A, xs, B, hA, rfl, rfl⟩ | ⟨ps, hps, rfl, rfl, rfl⟩
  · refine ⟨_, ⟨⟨A ++ (k, v', ys) :: B, mput_some hA, rfl⟩⟩, ?_⟩
    intro P n ρ dst ty T Tk Te pos af gd x y z S0 σ0 σ R H hT hk hx hy hz
    have H1 := H.unbig
    obtain ⟨⟨E, clk, h1, h2⟩, h3, h4⟩ := H1.head
    obtain ⟨E', clk', hr, h5⟩ := run_mapUpdate (P := P) (v' := v') (k := k) (es' := (A ++ (k, v', ys) :: B).map pmE) hT hk h1 h2 (.inl ⟨A.map pmE, v, B.map pmE, by rw [List.map_append]; rfl, pmE_ne hA, by rw [List.map_append]; rfl⟩)
    obtain ⟨H2, m2⟩ := turn_mp (clk' := clk') H1 h5
    refine ⟨σ.put b (.map E' clk'), ?_, ?_, m2⟩
    · simp [RunS, execOp, hx, hy, hz, hr, St.put]
    · rw [List.map_append (f := pmC lo el)] at H2
      have H3 := swap H2.tail
      have H4 := Hp.bigPut (A := A.map (pmC lo el)) (c := Ch.own lo el v' ys) (B := B.map (pmC lo el)) H3
      have H5 : Hp S0 σ0 (σ.put b (.map E' clk')) (Ch.mp lo b ((A ++ (k, v', ys) :: B).map pmE) :: Ch.big (A.map (pmC lo el) ++ Ch.own lo el v' ys :: B.map (pmC lo el)) :: R) := by
        refine ⟨H2.md, ⟨H2.all.1, H4.all⟩, ⟨fun i hi hc => ?_, H4.ap⟩, fun i hi => ?_⟩
        · refine H2.ap.1 i hi ?_
          rcases hc with hc | hc
          · rcases cov_append.1 hc with hc | hc | hc
            · exact .inl (cov_append.2 (.inl hc))
            · exact .inr (.inl hc)
            · exact .inl (cov_append.2 (.inr hc))
          · exact .inr (.inr hc)
        · rcases hi with hi | hi
          · exact H2.org i (.inl hi)
          · exact H4.org i hi
      have H6 := H5.bigCons
      rw [List.map_append (f := pmC lo el), List.map_cons (f := pmC lo el)]
      exact H6
  · refine ⟨_, ⟨⟨ps ++ [(k, v', ys)], mput_none hps, rfl⟩⟩, ?_⟩
    intro P n ρ dst ty T Tk Te pos af gd x y z S0 σ0 σ R H hT hk hx hy hz
    have H1 := H.unbig
    obtain ⟨⟨E, clk, h1, h2⟩, h3, h4⟩ := H1.head
    obtain ⟨E', clk', hr, h5⟩ := run_mapUpdate (P := P) (v' := v') (k := k) (es' := (ps ++ [(k, v', ys)]).map pmE) hT hk h1 h2 (.inr ⟨pmE_ne hps, by rw [List.map_append]; rfl⟩)
    obtain ⟨H2, m2⟩ := turn_mp (clk' := clk') H1 h5
    refine ⟨σ.put b (.map E' clk'), ?_, ?_, m2⟩
    · simp [RunS, execOp, hx, hy, hz, hr, St.put]
    · have H3 := swap H2.tail
      have H4 := H3.bigSnoc
      have H5 : Hp S0 σ0 (σ.put b (.map E' clk')) (Ch.mp lo b ((ps ++ [(k, v', ys)]).map pmE) :: Ch.big (ps.map (pmC lo el) ++ [Ch.own lo el v' ys]) :: R) := by
        refine ⟨H2.md, ⟨H2.all.1, H4.all⟩, ⟨fun i hi hc => ?_, H4.ap⟩, fun i hi => ?_⟩
        · refine H2.ap.1 i hi ?_
          rcases hc with hc | hc
          · rcases cov_append.1 hc with hc | hc | hc
            · exact .inl hc
            · exact .inr (.inl hc)
            · exact hc.elim
          · exact .inr (.inr hc)
        · rcases hi with hi | hi
          · exact H2.org i (.inl hi)
          · exact H4.org i hi
      have H6 := H5.bigCons
      rw [List.map_append (f := pmC lo el)]
      exact H6

/-! ## A map whose values are published -/
end
end Go.Vs

namespace Go.Vs
open Go

section
variable {α β : Type} [Rp α] [Rp β] [Dl α β] {S0 : BS} {σ0 σ σ' : St} {L K R : List Ch} {lo i : Nat} {v u : Value} {xs : List α} {a : Int} {e : α}

omit [Rp α] [Rp β] [Dl α β] in
theorem gidx_of_map {γ : Type} (f : γ → α) {ps : List γ} {a : Int} {p : γ} (h : gidx ps a = some p) : gidx (ps.map f) a = some (f p) := by
  unfold gidx at *
  split at h
  · rename_i h0
    rw [if_pos h0, List.getElem?_map, h]; rfl
  · cases h
structure DpH (lo : Nat) (v : Value) (xs : List α) (a : Int) (e : α) (u : Value) (K : List Ch) : Prop where
  ex : ∃ A B : List (α × Value), xs = (A ++ (e, u) :: B).map (·.1) ∧ a = (A.length : Int) ∧ K = Ch.own lo lo v ((A ++ (e, u) :: B).map dsh) :: (A ++ B).map (dow lo)
theorem DpH.at {b o : Nat} (hK : DpH lo v xs a e u K) (H : Hp S0 σ0 σ L) (i : Nat) (hn : nth L i = some (Ch.big K)) (hi : Ix v a (Rp.sz α) b o) : At lo σ b o (Dl.sh e u) := by
  have hb : allAs σ K ∧ apart K := H.get hn
  obtain ⟨A, B, rfl, rfl, rfl⟩ := hK.ex
  have hO : Ow σ lo lo v ((A ++ (e, u) :: B).map dsh) := hb.1.1
  have hg : gidx ((A ++ (e, u) :: B).map (dsh (α := α) (β := β))) (A.length : Int) = some (Dl.sh e u) := by
    refine gidx_of_map dsh (p := (e, u)) ?_
    unfold gidx
    rw [if_pos (by omega)]
    simp
  rw [Dl.sz (α := α) (β := β)] at hi
  exact hO.at hg hi
theorem At.val {b o : Nat} {u : Value} (h : At lo σ b o u) : HCell σ.w.heap b o = some u := by
  obtain ⟨cs, ⟨rfl, _⟩, h2⟩ := h
  rw [HCell_eq]; exact h2 0 (by simp)
end

section
variable {α β : Type} [Rp α] [Rp β] [Dl α β] {S0 : BS} {σ0 σ σ' : St} {L K R : List Ch} {lo i : Nat} {v u u' w : Value} {xs : List α} {a : Int} {e : α}
theorem DpH.put (hK : DpH lo v xs a e u K) (e' : α) (u' : Value) : ∃ K2, Dp lo v (xs.set a.toNat e') K2 ∧ ∀ {P : Program} {n : Nat} {ρ : Nat → Value} {dst : Option Nat} {ty T : TypeId} {z : Value} {s bt : Nat} {pos : String} {af : Array Edge} {gd : Option (Nat × Bool)} {x y : Operand} {w : Value} {bl o o' k : Nat} {vs : List Value} {S0 : BS} {σ0 σ : St} {R : List Ch},
    Hp S0 σ0 σ (Ch.big K :: Ch.own lo lo u' (Dl.inn e') :: R) → TI P T z s bt → Ix v a (Rp.sz α) bl o → ev n ρ x = pt bl o' → o' = o + k → ev n ρ y = w → w.cells = vs.toArray → vs.length = s → k + vs.length ≤ Rp.sz α → (∀ t ∈ vs, plain t = true) →
    (∀ {σ : St} cs, Rp.rp lo σ cs (Dl.sh e u) → Rp.rp lo σ (wrL cs k vs) (Dl.sh e' u')) →
    ExS P σ n ρ ⟨dst, .store T x y, ty, pos, af, gd⟩ fun σ' => Hp S0 σ0 σ' (Ch.big K2 :: R) ∧ Md (fun b => blk v = some b) σ σ' := by
  obtain ⟨A, B, rfl, rfl, rfl⟩ := hK.ex
  have hset : ((A ++ (e, u) :: B).map (dsh (α := α) (β := β))).set (A.length : Int).toNat (Dl.sh e' u') = (A ++ (e', u') :: B).map dsh := by
    rw [Int.toNat_natCast, List.map_append, List.set_append_right _ _ (by simp), List.length_map, Nat.sub_self, List.map_cons, List.set_cons_zero, List.map_append]; rfl
  refine ⟨_, ⟨⟨A ++ (e', u') :: B, ?_, rfl⟩⟩, ?_⟩
  · rw [Int.toNat_natCast, List.map_append, List.set_append_right _ _ (by simp), List.length_map, Nat.sub_self, List.map_cons, List.set_cons_zero, List.map_append]; rfl
  intro P n ρ dst ty T z s bt pos af gd x y w bl o o' k vs S0 σ0 σ R H hT hi hx ho hy hw hs hk hp hrp
  have H1 := H.unbig
  have hg : gidx ((A ++ (e, u) :: B).map (dsh (α := α) (β := β))) (A.length : Int) = some (Dl.sh e u) := by
    refine gidx_of_map dsh (p := (e, u)) ?_
    unfold gidx
    rw [if_pos (by omega)]
    simp
  rw [Dl.sz (α := α) (β := β)] at hi hk
  obtain ⟨σ', h1, H2, m⟩ := ex_store_own (P := P) (dst := dst) (ty := ty) (pos := pos) (af := af) (gd := gd) (e' := Dl.sh e' u') H1 (i := 0) rfl hT hg hi hx ho hy hw hs hk hp (hrp (σ := σ))
  refine ⟨σ', h1, ?_, m⟩
  rw [hset] at H2
  have H3 := H2.tail
  rw [List.map_append (f := dow lo)] at H3
  have H4 := Hp.bigPut (A := A.map (dow lo)) (c := Ch.own lo lo u' (Dl.inn e')) (B := B.map (dow lo)) (H3.front (i := 1) rfl)
  have H5 : Hp S0 σ0 σ' (Ch.own lo lo v ((A ++ (e', u') :: B).map dsh) :: Ch.big (A.map (dow lo) ++ Ch.own lo lo u' (Dl.inn e') :: B.map (dow lo)) :: R) := by
    refine ⟨H2.md, ⟨H2.all.1, H4.all⟩, ⟨fun j hj hc => ?_, H4.ap⟩, fun j hj => ?_⟩
    · refine H2.ap.1 j hj ?_
      rcases hc with hc | hc
      · rcases cov_append.1 hc with hc | hc | hc
        · refine .inl ?_; rw [List.map_append]; exact cov_append.2 (.inl hc)
        · exact .inr (.inl hc)
        · refine .inl ?_; rw [List.map_append]; exact cov_append.2 (.inr hc)
      · exact .inr (.inr hc)
    · rcases hj with hj | hj
      · exact H2.org j (.inl hj)
      · exact H4.org j hj
  have H6 := H5.bigCons
  rw [List.map_append (f := dow lo), List.map_cons (f := dow lo)]
  exact H6
end

section
variable {α β : Type} [Rp α] [Rp β] [Dl α β] {S0 : BS} {σ0 σ σ' : St} {L K R : List Ch} {lo i m : Nat} {v : Value} {xs : List α}
theorem Ab.big {K : List Ch} (h : AllAb m K) : Ab m (Ch.big K) := fun _ _ hw hv ha => ⟨allAb_as hw h hv ha.1, ha.2⟩
end

section
variable {α β : Type} [Rp α] [Rp β] [Dl α β] {S0 : BS} {σ0 σ σ' : St} {L K R : List Ch} {lo lo' i m : Nat} {v : Value} {xs : List α}
end

section
variable {α : Type} [Rp α] [Sc α] {S0 : BS} {σ0 σ : St} {L R : List Ch} {lo el : Nat} {v : Value} {xs : List α}
end
end Go.Vs

namespace Go.Vs

end Go.Vs

namespace Go.Vs
end Go.Vs

namespace Go.Vs
end Go.Vs

namespace Go.Vs
def If2 (A B : Type) : Type := Int × A × B
@[reducible] def If2.mk {A B : Type} (k : Int) (a : A) (b : B) : If2 A B := (k, a, b)
end Go.Vs

namespace Go.Vs
open Go

section
variable {α β : Type} [Rp α] [Rp β] [Dl α β] {P : Program} {n : Nat} {ρ : Nat → Value} {S0 : BS} {σ0 σ : St} {R : List Ch} {K : List Ch} {lo : Nat} {v u w z : Value} {xs r : List α} {e : α}
  {dst : Option Nat} {ty T T' E E' : TypeId} {pos : String} {af : Array Edge} {gd : Option (Nat × Bool)} {x y : Operand} {s bt : Nat}
end
end Go.Vs

namespace Go.Vs
open Go

section
variable {S0 : BS} {σ0 σ : St} {K L R : List Ch}
end
section
variable {α β : Type} [Rp α] [Rp β] [Dl α β] {S0 : BS} {σ0 σ : St} {R : List Ch} {lo lo' : Nat}
variable {P : Program} {f : FuncId} {args : List Value} {v0 : Value}
end

section
variable {α β : Type} [Rp α] [Rp β] [Dl α β] {lo lv li : Nat} {P : Program} {f : FuncId} {args : List Value} {v0 vv : Value}
end
end Go.Vs

namespace Go.Vs
open Go

instance : Dl (Int × Int × List Int × Int) (Int × Int × Value × Int) where
  sh x h := (x.1, x.2.1, h, x.2.2.2)
  inn x := x.2.2.1
  sz := rfl
  rp := by
    rintro _ _ _ _ _ _ ⟨_, _, rfl, h1, ⟨_, _, rfl, h2, ⟨_, _, rfl, ⟨rfl, _⟩, h3⟩⟩⟩ h
    exact ⟨_, _, rfl, h1, ⟨_, _, rfl, h2, ⟨_, _, rfl, ⟨_, rfl, h⟩, h3⟩⟩⟩
end Go.Vs

namespace Go.Vs
open Go

def ifs2 (k : Int) (a b : Value) : Value := bif k == 1 then a else bif k == 2 then b else .nilIface
theorem cf {c : Bool} {a b : Value} (h : c = false) : (bif c then a else b) = b := by rw [h]; rfl
section
variable {P : Program} {H : Array Obj} {n : Nat} {ρ : Nat → Value} {dst : Option Nat} {ty T T' T0 : TypeId} {pos : String} {af : Array Edge} {gd : Option (Nat × Bool)} {x y : Operand} {v : Value} {t : TypeId} {ms : Array (String × TypeId)} {D : TypeDesc}

end
end Go.Vs

namespace Go.Vs
open Go

theorem ifs2_plain {k : Int} {t1 t2 : TypeId} {a b : Value} : plain (ifs2 k (.iface t1 a) (.iface t2 b)) = true := by
  unfold ifs2; cases k == 1 <;> cases k == 2 <;> rfl
@[reducible] def rp2 (t1 t2 : TypeId) {A B : Type} [Rp A] [Rp B] : Rp (If2 A B) where
  sz := 1
  rp lo σ cs x := ∃ c1 c2, Rp.rp lo σ c1 x.2.1 ∧ Rp.rp lo σ c2 x.2.2 ∧ cs = [ifs2 x.1 (.iface t1 (.agg c1.toArray)) (.iface t2 (.agg c2.toArray))]
  pos := by decide
  len := by rintro _ _ _ _ ⟨c1, c2, _, _, rfl⟩; rfl
  extL := by rintro _ _ _ _ _ hE ⟨c1, c2, h1, h2, e⟩; exact ⟨c1, c2, Rp.extL hE h1, Rp.extL hE h2, e⟩
  low := by rintro _ _ _ _ _ hl ⟨c1, c2, h1, h2, e⟩; exact ⟨c1, c2, Rp.low hl h1, Rp.low hl h2, e⟩
  one := by
    rintro _ _ _ _ ⟨c1, c2, _, _, rfl⟩ c hc
    rw [List.mem_singleton] at hc
    rw [hc]; exact ifs2_plain
end Go.Vs

namespace Go.Vs
open Go

inductive Po (α : Type) where
  | nil
  | to (x : α)
deriving DecidableEq
def Po.get {α : Type} : Po α → Option α
  | .nil => none
  | .to x => some x
def Po.isNil {α : Type} : Po α → Bool
  | .nil => true
  | .to _ => false
inductive Vr (α : Type) where
  | nil
  | node (x : Po α) (l r : Vr α)
deriving DecidableEq
def Vr.get {α : Type} : Vr α → Option (Po α × Vr α × Vr α)
  | .nil => none
  | .node x l r => some (x, l, r)
def Vr.isNil {α : Type} : Vr α → Bool
  | .nil => true
  | .node .. => false
def Vr.mk {α : Type} (p : Po α × Vr α × Vr α) : Vr α := .node p.1 p.2.1 p.2.2
def bsel {β : Type} (e : Int) (x y : β) : β := if e = 0 then x else y
def gsel2 {β : Type} (e : Int) (x y : β) : Option β := if e = 0 then some x else if e = 1 then some y else none
theorem gsel2_some {β : Type} {e : Int} {x y z : β} (h : gsel2 e x y = some z) : (e = 0 ∨ e = 1) ∧ z = bsel e x y := by
  unfold gsel2 at h; unfold bsel
  split at h
  · next h0 => cases h; exact ⟨.inl h0, by rw [if_pos h0]⟩
  · next h0 =>
    split at h
    · next h1 => cases h; exact ⟨.inr h1, by rw [if_neg h0]⟩
    · cases h
class Pv (τ : Type) (ρ : outParam Type) [Rp ρ] where
  pv : Nat → St → Value → τ → Prop
  get : τ → Option ρ
  mk' : ρ → τ
  nil : τ
  isNil : τ → Bool
  out : ∀ {lo : Nat} {σ : St} {v : Value} {t : τ}, pv lo σ v t → (v = .pointer none ∧ isNil t = true ∧ get t = none) ∨ ∃ b o p, v = pt b o ∧ isNil t = false ∧ get t = some p ∧ lo ≤ b ∧ o + Rp.sz ρ ≤ σ.vis b ∧ At lo σ b o p
  into : ∀ {lo : Nat} {σ : St} {b o : Nat} {p : ρ}, lo ≤ b → o + Rp.sz ρ ≤ σ.vis b → (∃ C T, σ.w.heap[b]? = some (.cells C T (0, 0))) → At lo σ b o p → pv lo σ (pt b o) (mk' p)
  none : ∀ {lo : Nat} {σ : St}, pv lo σ (.pointer none) nil
  extL : ∀ {lo : Nat} {σ σ' : St} {v : Value} {t : τ}, ExtL lo σ σ' → pv lo σ v t → pv lo σ' v t
  low : ∀ {lo lo' : Nat} {σ : St} {v : Value} {t : τ}, lo' ≤ lo → pv lo σ v t → pv lo' σ v t

section
variable {α : Type} [Rp α]
theorem At.extL {lo : Nat} {σ σ' : St} {b o : Nat} {x : α} (h : At lo σ b o x) (hb : lo ≤ b) (hs : o + Rp.sz α ≤ σ.vis b) (hE : ExtL lo σ σ') : At lo σ' b o x := by
  obtain ⟨cs, h1, h2⟩ := h
  refine ⟨cs, Rp.extL hE h1, fun j hj => ?_⟩
  have := Rp.len h1
  rw [hE.cell b (o + j) hb (by omega)]
  exact h2 j hj

def PP (lo : Nat) (σ : St) (v : Value) : Po α → Prop
  | .nil => v = .pointer none
  | .to x => ∃ b o, v = pt b o ∧ lo ≤ b ∧ o + Rp.sz α ≤ σ.vis b ∧ At lo σ b o x
instance : Pv (Po α) α where
  pv := PP
  get := Po.get
  mk' := .to
  nil := .nil
  isNil := Po.isNil
  out {_ _ _ t} h := by
    cases t with
    | nil => exact .inl ⟨h, rfl, rfl⟩
    | to x => obtain ⟨b, o, h1, h2, h3, h4⟩ := h; exact .inr ⟨b, o, x, h1, rfl, rfl, h2, h3, h4⟩
  into h1 h2 _ h3 := ⟨_, _, rfl, h1, h2, h3⟩
  none := rfl
  extL {_ _ _ _ t} hE h := by
    cases t with
    | nil => exact h
    | to x => obtain ⟨b, o, h1, h2, h3, h4⟩ := h; exact ⟨b, o, h1, h2, Nat.le_trans h3 (hE.vis b h2), h4.extL h2 h3 hE⟩
  low {_ _ _ _ t} hl h := by
    cases t with
    | nil => exact h
    | to x => obtain ⟨b, o, h1, h2, h3, h4⟩ := h; exact ⟨b, o, h1, Nat.le_trans hl h2, h3, h4.low hl⟩
end

section
variable {τ ρ : Type} [Rp ρ] [Pv τ ρ] {lo el : Nat} {σ σ' : St} {v : Value} {t : τ} {p : ρ} {b o : Nat}
def PV (lo : Nat) (σ : St) (v : Value) (t : τ) : Prop := Pv.pv lo σ v t
theorem PV.nil : PV lo σ (.pointer Option.none) (Pv.nil : τ) := Pv.none
theorem PV.plain (h : PV lo σ v t) : plain v = true := by
  rcases Pv.out h with ⟨h, _⟩ | ⟨b, o, p, h, _⟩ <;> rw [h] <;> rfl
theorem PV.extL (h : PV lo σ v t) (hE : ExtL lo σ σ') : PV lo σ' v t := Pv.extL hE h
theorem PV.low {lo' : Nat} (h : PV lo σ v t) (hl : lo' ≤ lo) : PV lo' σ v t := Pv.low hl h
theorem PV.at' (h : PV lo σ v t) (hp : Pv.get t = some p) : ∃ b o, v = pt b o ∧ lo ≤ b ∧ o + Rp.sz ρ ≤ σ.vis b ∧ At lo σ b o p := by
  rcases Pv.out h with ⟨_, _, h⟩ | ⟨b, o, q, h1, _, h3, h4⟩
  · rw [h] at hp; cases hp
  · rw [h3] at hp; cases hp; exact ⟨b, o, h1, h4⟩
theorem PV.ex (h : PV lo σ v t) (hp : Pv.get t = some p) : ∃ b o, v = pt b o := by
  obtain ⟨b, o, h, _⟩ := h.at' hp
  exact ⟨b, o, h⟩
theorem PV.at (h : PV lo σ v t) (hp : Pv.get t = some p) (hv : v = pt b o) : At lo σ b o p := by
  obtain ⟨b', o', h1, _, _, h2⟩ := h.at' hp
  rw [hv] at h1; cases h1; exact h2
theorem PV.hmd {S : BS} {u : Value} (h : PV lo σ v t) (hp : Pv.get t = some p) (hv : v = pt b o) {k : Nat} (hk : k < Rp.sz ρ)
    (hc : HCell σ.w.heap b (o + k) = some u) (m : Md S σ σ') : HCell σ'.w.heap b (o + k) = some u := by
  obtain ⟨b', o', h1, h2, h3, _⟩ := h.at' hp
  rw [hv] at h1; cases h1
  rw [HCell_eq] at hc ⊢
  exact (m.ext.cell b (o + k) (by omega)).trans hc
end

section
variable {α : Type} [Rp α] {lo el : Nat} {σ σ' : St} {v : Value}
instance : Rp (Po α) where
  sz := 1
  rp lo σ cs t := ∃ v, cs = [v] ∧ PV lo σ v t
  pos := by decide
  len := by rintro _ _ _ _ ⟨v, rfl, _⟩; rfl
  extL := by rintro _ _ _ _ _ hE ⟨v, rfl, h⟩; exact ⟨v, rfl, h.extL hE⟩
  low := by rintro _ _ _ _ _ hl ⟨v, rfl, h⟩; exact ⟨v, rfl, h.low hl⟩
  one := by
    rintro _ _ _ _ ⟨v, rfl, h⟩ c hc
    simp only [List.mem_singleton] at hc
    rw [hc]; exact h.plain
def RV (lo : Nat) (σ : St) : Value → Vr α → Prop
  | v, .nil => v = .pointer none
  | v, .node x l r => ∃ b o vx vl vr, v = pt b o ∧ lo ≤ b ∧ o + 3 ≤ σ.vis b ∧ (∃ C T, σ.w.heap[b]? = some (.cells C T (0, 0))) ∧ PV lo σ vx x ∧ RV lo σ vl l ∧ RV lo σ vr r ∧ ∀ j, (h : j < [vx, vl, vr].length) → σ.cell b (o + j) = some [vx, vl, vr][j]
theorem RV.plain {t : Vr α} (h : RV lo σ v t) : plain v = true := by
  cases t with
  | nil => rw [show v = .pointer none from h]; rfl
  | node x l r => obtain ⟨b, o, vx, vl, vr, rfl, _⟩ := h; rfl
theorem RV.extL (hE : ExtL lo σ σ') : ∀ {t : Vr α} {v : Value}, RV lo σ v t → RV lo σ' v t
  | .nil, _, h => h
  | .node x l r, _, ⟨b, o, vx, vl, vr, h1, h2, h3, h0, h4, h5, h6, h7⟩ => by
    refine ⟨b, o, vx, vl, vr, h1, h2, Nat.le_trans h3 (hE.vis b h2), by rw [hE.block b h2 (by omega)]; exact h0, h4.extL hE, RV.extL hE h5, RV.extL hE h6, fun j hj => ?_⟩
    have hl : [vx, vl, vr].length = 3 := rfl
    rw [hE.cell b _ h2 (by omega)]
    exact h7 j hj
theorem RV.low {lo' : Nat} (hl : lo' ≤ lo) : ∀ {t : Vr α} {v : Value}, RV lo σ v t → RV lo' σ v t
  | .nil, _, h => h
  | .node x l r, _, ⟨b, o, vx, vl, vr, h1, h2, h3, h0, h4, h5, h6, h7⟩ => ⟨b, o, vx, vl, vr, h1, Nat.le_trans hl h2, h3, h0, h4.low hl, RV.low hl h5, RV.low hl h6, h7⟩
instance : Rp (Vr α) where
  sz := 1
  rp lo σ cs t := ∃ v, cs = [v] ∧ RV lo σ v t
  pos := by decide
  len := by rintro _ _ _ _ ⟨v, rfl, _⟩; rfl
  extL := by rintro _ _ _ _ _ hE ⟨v, rfl, h⟩; exact ⟨v, rfl, h.extL hE⟩
  low := by rintro _ _ _ _ _ hl ⟨v, rfl, h⟩; exact ⟨v, rfl, h.low hl⟩
  one := by
    rintro _ _ _ _ ⟨v, rfl, h⟩ c hc
    simp only [List.mem_singleton] at hc
    rw [hc]; exact h.plain
instance : Pv (Vr α) (Po α × Vr α × Vr α) where
  pv := RV
  get := Vr.get
  mk' := Vr.mk
  nil := .nil
  isNil := Vr.isNil
  out {_ _ _ t} h := by
    cases t with
    | nil => exact .inl ⟨h, rfl, rfl⟩
    | node x l r =>
      obtain ⟨b, o, vx, vl, vr, h1, h2, h3, h0, h4, h5, h6, h7⟩ := h
      exact .inr ⟨b, o, (x, l, r), h1, rfl, rfl, h2, h3, [vx, vl, vr], ⟨[vx], [vl, vr], rfl, ⟨vx, rfl, h4⟩, [vl], [vr], rfl, ⟨vl, rfl, h5⟩, ⟨vr, rfl, h6⟩⟩, h7⟩
  into {_ _ _ _ p} h1 h2 h0 h3 := by
    obtain ⟨_, ⟨_, _, rfl, ⟨vx, rfl, h4⟩, _, _, rfl, ⟨vl, rfl, h5⟩, ⟨vr, rfl, h6⟩⟩, h7⟩ := h3
    exact ⟨_, _, vx, vl, vr, rfl, h1, h2, h0, h4, h5, h6, h7⟩
  none := rfl
  extL hE h := RV.extL hE h
  low hl h := RV.low hl h
theorem At.vr {b o : Nat} {t : Vr α} (h : At el σ b o t) : ∃ v, HCell σ.w.heap b o = some v ∧ PV el σ v t := by
  obtain ⟨cs, ⟨v, rfl, hR⟩, h2⟩ := h
  exact ⟨v, by rw [HCell_eq]; exact h2 0 (by simp), hR⟩
end

section
variable {τ ρ : Type} [Rp ρ] [Pv τ ρ] {S0 : BS} {σ0 σ : St} {L R : List Ch} {el lo b o i : Nat} {v : Value} {t t' x y z : τ} {cs pre suf : List Value} {e : Int}
def Ch.pv (el : Nat) (v : Value) (t : τ) : Ch where
  dup := true
  fp _ := False
  as σ := PV el σ v t
  hdup _ _ := id
  hlt _ _ h := h.elim
  hst m _ h := PV.extL h (m.ext.extL el)
theorem Hp.pv (H : Hp S0 σ0 σ L) (i : Nat) (h : nth L i = some (Ch.pv el v t)) : PV el σ v t := H.get h
theorem PV.bsel {a0 a1 : Option Addr} (h0 : PV el σ (.pointer a0) x) (h1 : PV el σ (.pointer a1) y) : PV el σ (.pointer (Go.Vs.bsel e a0 a1)) (Go.Vs.bsel e x y) := by
  unfold Go.Vs.bsel; split
  · exact h0
  · exact h1
theorem PV.sel {a0 a1 : Option Addr} (h0 : PV el σ (.pointer a0) x) (h1 : PV el σ (.pointer a1) y) (hx : gsel2 e x y = some z) : PV el σ (.pointer (Go.Vs.bsel e a0 a1)) z := by
  rw [(gsel2_some hx).2]; exact h0.bsel h1
end

section
variable {τ ρ : Type} [Rp ρ] [Pv τ ρ] {P : Program} {H : Array Obj} {n lo : Nat} {ρ' : Nat → Value} {d : Option Nat} {ty T T' : TypeId} {pos : String} {af : Array Edge} {gd : Option (Nat × Bool)} {x y : Operand} {v : Value} {t : τ} {σ : St}
end

/-! ## Two pointers that are compared -/
class Rf (α : Type) [Rp α] : Prop where
  fn : ∀ {lo lo' : Nat} {σ : St} {cs : List Value} {x y : α}, Rp.rp lo σ cs x → Rp.rp lo' σ cs y → x = y
instance : Rf Int := ⟨fun {_ _ _ _ _ _} h k => by have h : _ = [I _] := h; have k : _ = [I _] := k; rw [h] at k; cases k; rfl⟩
section
variable {α β : Type} [Rp α] [Rp β]
theorem At.fn [Rf α] {lo lo' : Nat} {σ : St} {b o : Nat} {x y : α} (h : At lo σ b o x) (k : At lo' σ b o y) : x = y := by
  obtain ⟨cs, h1, h2⟩ := h
  obtain ⟨cs', k1, k2⟩ := k
  have e : cs = cs' := by
    refine List.ext_getElem ((Rp.len h1).trans (Rp.len k1).symm) fun j hj hj' => ?_
    exact Option.some.inj ((h2 j hj).symm.trans (k2 j hj'))
  subst e
  exact Rf.fn h1 k1
instance [Rf α] [Rf β] : Rf (α × β) := ⟨fun {_ _ _ _ x y} h k => by
  obtain ⟨c1, c2, e, h1, h2⟩ := h
  obtain ⟨d1, d2, e', k1, k2⟩ := k
  obtain ⟨r1, r2⟩ := List.append_inj (e.symm.trans e') ((Rp.len h1).trans (Rp.len k1).symm)
  subst r1 r2
  exact Prod.ext (Rf.fn h1 k1) (Rf.fn h2 k2)⟩
theorem RS.fn [Rf α] {el el' : Nat} {σ : St} {v : Value} {xs ys : List α} (h : RS el σ v xs) (k : RS el' σ v ys) : xs = ys := by
  rcases h with ⟨⟨ad, c, rfl⟩, rfl⟩ | ⟨b, o, c, rfl, _, _, _, h⟩
  · rcases k with ⟨_, rfl⟩ | ⟨b', o', c', e, _⟩
    · rfl
    · injection e with _ e2 _
      exact (List.eq_nil_of_length_eq_zero e2.symm).symm
  · rcases k with ⟨⟨ad, c', e⟩, rfl⟩ | ⟨b', o', c', e, _, _, _, k⟩
    · injection e with _ e2 _
      exact List.eq_nil_of_length_eq_zero e2
    · injection e with e1 e2 _
      injection e1 with e1
      injection e1 with e3 e4 _
      subst e3 e4
      exact List.ext_getElem e2 fun i hi hi' => (h i hi).fn (k i hi')
instance [Rf α] : Rf (List α) := ⟨fun {_ _ _ _ x y} h k => by
  obtain ⟨v, rfl, h⟩ := h
  obtain ⟨v', e, k⟩ := k
  injection e with e
  subst e
  exact RS.fn h k⟩
theorem PV.fnPo [Rf α] {lo lo' : Nat} {σ : St} {v : Value} {x y : Po α} (h : PV lo σ v x) (k : PV lo' σ v y) : x = y := by
  cases x with
  | nil =>
    have h : v = .pointer none := h
    cases y with
    | nil => rfl
    | to y => obtain ⟨b, o, e, _⟩ := (k : PP lo' σ v (.to y)); rw [h] at e; cases e
  | to x =>
    obtain ⟨b, o, e, _, _, h⟩ := (h : PP lo σ v (.to x))
    cases y with
    | nil => have k : v = .pointer none := k; rw [k] at e; cases e
    | to y =>
      obtain ⟨b', o', e', _, _, k⟩ := (k : PP lo' σ v (.to y))
      rw [e] at e'; cases e'
      rw [h.fn k]
theorem RV.fn [Rf α] {lo lo' : Nat} {σ : St} : ∀ {v : Value} {x y : Vr α}, RV lo σ v x → RV lo' σ v y → x = y
  | v, .nil, y, h, k => by
    have h : v = .pointer none := h
    cases y with
    | nil => rfl
    | node y l r => obtain ⟨b, o, vx, vl, vr, e, _⟩ := k; rw [h] at e; cases e
  | v, .node x l r, y, h, k => by
    obtain ⟨b, o, vx, vl, vr, e, _, _, _, h1, h2, h3, h4⟩ := h
    cases y with
    | nil => have k : v = .pointer none := k; rw [k] at e; cases e
    | node y l' r' =>
      obtain ⟨b', o', wx, wl, wr, e', _, _, _, k1, k2, k3, k4⟩ := k
      rw [e] at e'; cases e'
      have q : ∀ j, (hj : j < 3) → [vx, vl, vr][j]'hj = [wx, wl, wr][j]'hj := fun j hj => Option.some.inj ((h4 j hj).symm.trans (k4 j hj))
      obtain rfl : vx = wx := q 0 (by omega)
      obtain rfl : vl = wl := q 1 (by omega)
      obtain rfl : vr = wr := q 2 (by omega)
      rw [h1.fnPo k1, RV.fn h2 k2, RV.fn h3 k3]
def peq (a b : Option Addr) : Bool := decide (a = b)
theorem PV.same [Rf α] {lo lo' : Nat} {σ : St} {a b : Option Addr} {x y : Vr α} (hb : peq a b = true) (h : PV lo σ (.pointer a) x) (k : PV lo' σ (.pointer b) y) : x = y := by
  obtain rfl : a = b := of_decide_eq_true hb
  exact RV.fn h k
section
variable {P : Program} {n lo lo' : Nat} {ρ' : Nat → Value} {d : Option Nat} {ty T T' E : TypeId} {pos : String} {af : Array Edge} {gd : Option (Nat × Bool)} {x y : Operand} {t t' : Vr α} {σ : St} {a a' : Option Addr} {z : Value} {s bt : Nat}
theorem RV.spot {p : Addr} (h : RV lo σ (.pointer (some p)) t) : p = ⟨p.block, p.off, none⟩ := by
  cases t with
  | nil => have h : Value.pointer (some p) = .pointer none := h; cases h
  | node => obtain ⟨b', o', vx, vl, vr, e, _⟩ := h; injection e with e; injection e with e; rw [e]
end
end
end Go.Vs

namespace Go.Vs
open Go

section
variable {α : Type} [Rp α]
end
section
variable {P : Program} {H : Array Obj} {n : Nat} {ρ : Nat → Value} {d : Option Nat} {ty T E : TypeId} {pos : String} {af : Array Edge} {gd : Option (Nat × Bool)} {x y : Operand} {a : Int} {m bt : Nat} {z v : Value} {vs : List Value}
end
end Go.Vs

namespace Go.Vs
open Go
section
variable {P : Program} {ops : Array Oper} {Q : Exit → Act → World → Prop} {rest : List Oper} {n : Nat} {ρ : Nat → Value} {w : World} {d : Nat} {x : Operand} {ty : TypeId} {pos : String} {af : Array Edge}
theorem sm (v : Value) (h : ev n ρ x = v) (k : wpList P ops Q rest (fr n (upd ρ d v)) w) : wpList P ops Q (⟨some d, .move x, ty, pos, af, none⟩ :: rest) (fr n ρ) w := st (rv_move h) k
theorem sa (v : Value) (h : ev n ρ x = v) (k : wpList P ops Q rest (fr n (upd ρ d v)) w) : wpList P ops Q (⟨some d, .assign x, ty, pos, af, none⟩ :: rest) (fr n ρ) w := st (rv_assign h) k
theorem br {α β : Type} {o : Option α} {f : α → Option β} {r : β} {p : Prop} (k : ∀ x, o = some x → f x = some r → p) : o.bind f = some r → p := fun h => let ⟨x, h1, h2⟩ := bind_some h; k x h1 h2
theorem sj {α : Type} {a b : α} (h : some a = some b) : a = b := Option.some.inj h
end
end Go.Vs
