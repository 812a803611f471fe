/- What a function of the program does to its memory, step by step. -/
import Derived.Test.YtflpjndobffkjaaExactIsTreeOfEng1
import Derived.RangeFuncLeaves
import Derived.RangeFuncSeq
import Derived.TacticsIn
import Derived.Sort.LoopGhostIn
set_option linter.unusedVariables false
set_option linter.unusedSimpArgs false
namespace Go.Vs
open Go

def optB (x : Operand) (p : Nat → Bool) : Bool := match x with
  | .tmp t => p t
  | _ => true
def notSel (o : Op) : Bool := match o with
  | .select _ _ => false
  | _ => true
def sqB (ops : Array Oper) (n : Nat) : Bool := (List.range n).all fun i => match ops[i]? with
  | some o => notSel o.op && (o.op.operands.toList.all fun x => optB x fun t => offB ops n t || (List.range i).any fun j => waits o j && (dstOf ops j == some t)) && (match o.guard with | none => true | some (j, _) => waits o j && Nat.blt j i)
  | none => false
def SeqW (P : Program) (ops : Array Oper) (H : Array Obj) (N : Nat) (K : (Nat → Value) → Prop) : List Oper → (Nat → Value) → Prop
  | [], ρ => K ρ
  | o :: r, ρ => ∃ v d, o.dst = some d ∧ ((Region.wanted o (yv ops N ρ) = true ∧ RunV P H N ρ o v) ∨ (Region.wanted o (yv ops N ρ) = false ∧ v = undef)) ∧ SeqW P ops H N K r (upd ρ d v)
def env : List Oper → List Value → (Nat → Value) → (Nat → Value)
  | o :: r, v :: vs, ρ => env r vs (upd ρ (o.dst.getD 0) v)
  | _, _, ρ => ρ
section
variable {P : Program} {ops : Array Oper} {H : Array Obj} {N : Nat} {K : (Nat → Value) → Prop} {Q : Exit → Act → World → Prop}
def StepOK (P : Program) (ops : Array Oper) (H : Array Obj) (N : Nat) (o : Oper) (ρ : Nat → Value) (v : Value) : Prop :=
  ∃ d, o.dst = some d ∧ ((Region.wanted o (yv ops N ρ) = true ∧ RunV P H N ρ o v) ∨ (Region.wanted o (yv ops N ρ) = false ∧ v = undef))
theorem seq_spec : ∀ (l : List Oper) (ρ : Nat → Value), SeqW P ops H N K l ρ → ∃ vs : List Value, vs.length = l.length ∧ K (env l vs ρ) ∧ ∀ i o, l[i]? = some o → StepOK P ops H N o (env (l.take i) (vs.take i) ρ) (vs.getD i undef)
  | [], ρ, h => ⟨[], rfl, h, fun i o ho => by simp at ho⟩
  | o :: r, ρ, ⟨v, d, hd, hv, h⟩ => by
    obtain ⟨vs, h1, h2, h3⟩ := seq_spec r (upd ρ d v) h
    refine ⟨v :: vs, by simp [h1], ?_, fun i o' ho => ?_⟩
    · simp only [env, hd, Option.getD_some]; exact h2
    · cases i with
      | zero =>
        simp only [List.getElem?_cons_zero, Option.some.injEq] at ho
        subst ho
        exact ⟨d, hd, by simpa [env] using hv⟩
      | succ i =>
        have := h3 i o' (by simpa using ho)
        simpa [env, hd] using this
theorem env_off {t : Nat} : ∀ (l : List Oper) (vs : List Value) (ρ : Nat → Value), (∀ o ∈ l, ∀ d, o.dst = some d → d ≠ t) → (∀ o ∈ l, o.dst.isSome = true) → env l vs ρ t = ρ t
  | [], vs, ρ, _, _ => by cases vs <;> rfl
  | o :: r, [], ρ, _, _ => rfl
  | o :: r, v :: vs, ρ, h, hs => by
    rw [env, env_off r vs _ (fun o' ho' => h o' (by simp [ho'])) (fun o' ho' => hs o' (by simp [ho']))]
    cases hd : o.dst with
    | none => have := hs o (by simp); rw [hd] at this; cases this
    | some d =>
      have : t ≠ d := fun e => h o (by simp) d hd e.symm
      show (bif Nat.beq t d then v else ρ t) = ρ t
      rw [beq_f this]; rfl
theorem env_at {d j : Nat} : ∀ (l : List Oper) (vs : List Value) (ρ : Nat → Value), vs.length = l.length → (∀ o ∈ l, o.dst.isSome = true) → (∃ o, l[j]? = some o ∧ o.dst = some d) → (∀ k o, j < k → l[k]? = some o → o.dst ≠ some d) → env l vs ρ d = vs.getD j undef
  | [], vs, ρ, _, _, ⟨o, ho, _⟩, _ => by simp at ho
  | o :: r, [], ρ, hl, _, _, _ => by simp at hl
  | o :: r, v :: vs, ρ, hl, hs, ⟨o', ho', hd'⟩, hk => by
    rw [env]
    cases j with
    | zero =>
      simp only [List.getElem?_cons_zero, Option.some.injEq] at ho'
      subst ho'
      rw [hd', Option.getD_some, env_off r vs _ (fun o2 ho2 d2 hd2 e => by
        obtain ⟨k, hk2, he⟩ := List.mem_iff_getElem.1 ho2
        subst e
        exact hk (k + 1) o2 (by omega) (by simp [hk2, he]) hd2) (fun o2 ho2 => hs o2 (by simp [ho2]))]
      show (bif Nat.beq d d then v else ρ d) = _
      rw [beq_t]; rfl
    | succ j =>
      rw [env_at r vs _ (by simpa using hl) (fun o2 ho2 => hs o2 (by simp [ho2])) ⟨o', by simpa using ho', hd'⟩ (fun k o2 hjk ho2 => hk (k + 1) o2 (by omega) (by simpa using ho2))]
      simp
theorem ev_of_look {ρ ρ' : Nat → Value} {x : Operand} (h : ∀ t, x = .tmp t → look N ρ t = look N ρ' t) : ev N ρ x = ev N ρ' x := by
  cases x with
  | tmp t => exact h t rfl
  | const v => rfl
  | global g => rfl
  | func f => rfl
theorem runV_congr {ρ ρ' : Nat → Value} {o : Oper} {v : Value} (hs : notSel o.op = true) (h : ∀ x ∈ o.op.operands, ev N ρ x = ev N ρ' x) (hr : RunV P H N ρ' o v) : RunV P H N ρ o v := by
  intro w hw
  rw [execOp_congr o (fun cs b e => by rw [e] at hs; cases hs) h]
  exact hr w hw
theorem wanted_congr {ρ ρ' : Nat → Value} {o : Oper} (h : ∀ j b, o.guard = some (j, b) → yv ops N ρ j = yv ops N ρ' j) : Region.wanted o (yv ops N ρ) = Region.wanted o (yv ops N ρ') := by
  unfold Region.wanted
  cases hg : o.guard with
  | none => rfl
  | some p => obtain ⟨j, b⟩ := p; simp only [h j b hg]

theorem rgP {id : Nat} {l : List Oper} {σ : St} {ρ0 : Nat → Value} (n : Nat) (hm : P.follows .mixedOrders = true) (hB : rgB N l.toArray n [] [[]] (List.replicate n [(0, 0)]) 0 = true) (hS : sqB l.toArray n = true)
    (hseq : SeqW P l.toArray σ.w.heap N (fun ρ => ∀ σ' : St, Md (cov []) σ σ' → wpList P l.toArray Q (l.drop n) (fr N ρ) σ'.w) (l.take n) ρ0) :
    (Code.region id l.toArray true).wp P Q (fr N ρ0) σ.w := by
  obtain ⟨vs, hvl, hK, hst⟩ := seq_spec _ _ hseq
  have hB' := hB
  simp only [rgB, Bool.and_eq_true] at hB'
  obtain ⟨⟨⟨⟨⟨⟨⟨hn, hD⟩, _⟩, _⟩, _⟩, _⟩, _⟩, _⟩ := hB'
  have hnl : n ≤ l.length := by simpa using Nat.le_of_ble_eq_true hn
  rw [List.length_take, Nat.min_eq_left hnl] at hvl
  have hget : ∀ i, i < n → (l.take n)[i]? = l.toArray[i]? := fun i hi => by simp [List.getElem?_take, hi]
  have hex : ∀ i, i < n → ∃ o, l.toArray[i]? = some o := fun i hi => by
    have : i < l.length := by omega
    exact ⟨l[i], by simp [this]⟩
  -- what each operation writes
  have hdst : ∀ i, i < n → ∃ d, dstOf l.toArray i = some d ∧ d < N ∧ ∀ j, j < n → j ≠ i → dstOf l.toArray j ≠ some d := by
    intro i hi
    obtain ⟨o, ho⟩ := hex i hi
    obtain ⟨d, hd, _⟩ := hst i o (by rw [hget i hi]; exact ho)
    have hdi : dstOf l.toArray i = some d := by unfold dstOf; rw [ho]; exact hd
    have := List.all_eq_true.1 hD i (List.mem_range.2 hi)
    simp only [Bool.and_eq_true, hdi] at this
    obtain ⟨⟨h1, _⟩, h3⟩ := this
    refine ⟨d, hdi, ?_, fun j hj hne e => ?_⟩
    · exact Classical.byContradiction fun hc => by rw [blt_f hc] at h1; cases h1
    · have := List.all_eq_true.1 h3 j (List.mem_range.2 hj)
      rw [beq_f (Ne.symm hne)] at this
      simp [e] at this
  have hsome : ∀ i, i ≤ n → ∀ o ∈ l.take i, o.dst.isSome = true := by
    intro i hi o ho
    obtain ⟨k, hk, he⟩ := List.mem_iff_getElem.1 ho
    rw [List.length_take] at hk
    obtain ⟨d, hd, _⟩ := hdst k (by omega)
    rw [List.getElem_take] at he
    have hkl : k < l.length := by omega
    unfold dstOf at hd
    rw [show l.toArray[k]? = some o by simp [hkl, he]] at hd
    simp only [Option.bind_some] at hd
    rw [hd]; rfl
  have htt : ∀ i, i ≤ n → (l.take n).take i = l.take i := fun i hi => by rw [List.take_take, Nat.min_eq_left hi]
  have henvoff : ∀ i t, i ≤ n → (∀ k, k < n → dstOf l.toArray k ≠ some t) → env (l.take i) (vs.take i) ρ0 t = ρ0 t := by
    intro i t hi ht
    refine env_off _ _ _ (fun o ho d hd e => ?_) (hsome i hi)
    obtain ⟨k, hk, he⟩ := List.mem_iff_getElem.1 ho
    rw [List.length_take] at hk
    rw [List.getElem_take] at he
    have hkl : k < l.length := by omega
    refine ht k (by omega) ?_
    unfold dstOf
    rw [show l.toArray[k]? = some o by simp [hkl, he]]
    subst e; exact hd
  have henvat : ∀ i j d, i ≤ n → j < i → dstOf l.toArray j = some d → env (l.take i) (vs.take i) ρ0 d = vs.getD j undef := by
    intro i j d hi hj hd
    have hjl : j < l.length := by omega
    rw [env_at (j := j) _ _ _ (by simp; omega) (hsome i hi) ?_ ?_]
    · simp [List.getD, List.getElem?_take, hj]
    · unfold dstOf at hd
      rw [show l.toArray[j]? = some l[j] by simp [hjl]] at hd
      exact ⟨l[j], by simp [List.getElem?_take, hj, hjl], hd⟩
    · intro k o hjk ho hdo
      have hkl : k < i := by
        refine Classical.byContradiction fun hc => ?_
        rw [List.getElem?_take, if_neg hc] at ho; cases ho
      rw [List.getElem?_take, if_pos hkl] at ho
      obtain ⟨d', h1, _, h3⟩ := hdst j (by omega)
      have : d' = d := by rw [hd] at h1; exact (Option.some.inj h1).symm
      subst this
      refine h3 k (by omega) (by omega) ?_
      unfold dstOf
      rw [show l.toArray[k]? = some o by simpa using ho]
      exact hdo
  refine rg2e (Nm := Unit) (σ := σ) n [] [[]] (List.replicate n [(0, 0)]) 0 [fun _ σm => σm.w.heap = σ.w.heap ∧ Md (cov []) σ σm] (vs.map fun v _ => v) () hm hB (fun σ1 hh m => ⟨hh, m⟩) ?_ ?_
  · -- each operation
    have main : ∀ i o, i < n → l.toArray[i]? = some o → ∀ k, Ob (Nm := Unit) P l.toArray N n ρ0 (Jl [fun _ σm => σm.w.heap = σ.w.heap ∧ Md (cov []) σ σm]) (Vl (vs.map fun v _ => v)) i o k k := by
      intro i o hi ho k nm ρ σm hJ hoff hdep
      have hS1 := List.all_eq_true.1 hS i (List.mem_range.2 hi)
      rw [ho] at hS1
      simp only [Bool.and_eq_true] at hS1
      obtain ⟨⟨hsel, hops⟩, hgd⟩ := hS1
      have hV : ∀ j, j < n → Vl (vs.map fun v (_ : Unit) => v) j nm = vs.getD j undef := by
        intro j hj
        unfold Vl
        have : j < vs.length := by omega
        simp [List.getD, this]
      have hlook : ∀ j d, waits o j = true → j < i → dstOf l.toArray j = some d → look N ρ d = look N (env (l.take i) (vs.take i) ρ0) d := by
        intro j d hw hj hd
        obtain ⟨d', h1, hdN, _⟩ := hdst j (by omega)
        have : d' = d := by rw [hd] at h1; exact (Option.some.inj h1).symm
        subst this
        rw [hdep j hw (blt_t (by omega)) d' hd, hV j (by omega), look_lt _ hdN, henvat i j d' (by omega) hj hd]
      have hev : ∀ x ∈ o.op.operands, ev N ρ x = ev N (env (l.take i) (vs.take i) ρ0) x := by
        intro x hx
        refine ev_of_look fun t ht => ?_
        subst ht
        have := List.all_eq_true.1 hops (.tmp t) (by simpa using hx)
        simp only [optB, Bool.or_eq_true] at this
        rcases this with h | h
        · unfold look
          rw [hoff t h, henvoff i t (by omega) (off_of h)]
        · obtain ⟨j, hj, hjw⟩ := List.any_eq_true.1 h
          simp only [Bool.and_eq_true] at hjw
          exact hlook j t hjw.1 (List.mem_range.1 hj) (by simpa using hjw.2)
      have hyv : ∀ j b, o.guard = some (j, b) → yv l.toArray N ρ j = yv l.toArray N (env (l.take i) (vs.take i) ρ0) j := by
        intro j b hg
        rw [hg] at hgd
        simp only [Bool.and_eq_true] at hgd
        have hji : j < i := Classical.byContradiction fun hc => by rw [blt_f hc] at hgd; cases hgd.2
        obtain ⟨d, h1, _, _⟩ := hdst j (by omega)
        have hl := hlook j d hgd.1 hji h1
        unfold dstOf at h1
        unfold yv
        simp only [h1, hl]
      obtain ⟨d, hd, hor⟩ := hst i o (by rw [hget i hi]; exact ho)
      rw [htt i (by omega)] at hor
      have hJ2 : σm.w.heap = σ.w.heap := by
        unfold Jl at hJ
        cases k with
        | zero => exact hJ.1
        | succ k => simp at hJ
      rcases hor with ⟨hw, hr⟩ | ⟨hw, hv⟩
      · refine dp_v (v := vs.getD i undef) ?_ ?_ (hV i hi) hJ
        · rw [wanted_congr hyv]; exact hw
        · rw [hJ2]; exact runV_congr hsel hev hr
      · refine dp_skip ?_ (by rw [hV i hi]; exact hv) hJ
        rw [wanted_congr hyv]; exact hw
    have build : ∀ m k : Nat, k + m = n → ∀ r : List Oper, r = l.drop k → AllOps (fun i o => AllK (Ob (Nm := Unit) P l.toArray N n ρ0 (Jl [fun _ σm => σm.w.heap = σ.w.heap ∧ Md (cov []) σ σm]) (Vl (vs.map fun v _ => v)) i o) (AtL (List.replicate n [(0, 0)]) i)) m k r := by
      intro m
      induction m with
      | zero => intro k _ r _; exact all_nil
      | succ m ih =>
        intro k hk r hr
        have hkl : k < l.length := by omega
        rw [List.drop_eq_getElem_cons hkl] at hr
        subst hr
        have hat : AtL (List.replicate n [(0, 0)]) k = [(0, 0)] := by
          unfold AtL
          have : k < n := by omega
          simp [List.getD, this]
        refine all_cons ?_ (ih (k + 1) (by omega) _ rfl)
        simp only [hat]
        exact ⟨main k l[k] (by omega) (by simp [hkl]) 0, trivial⟩
    exact build n 0 (by omega) l (by simp)
  · intro nm ρ σ' hJ hoff hrel
    have hJ2 : Md (cov []) σ σ' := hJ.2
    have hfr : fr N ρ = fr N (env (l.take n) vs ρ0) := by
      refine fr_ext fun t ht => ?_
      have hvt : vs.take n = vs := List.take_of_length_le (by omega)
      by_cases hoffb : offB l.toArray n t = true
      · have := henvoff n t (Nat.le_refl _) (off_of hoffb)
        rw [hvt] at this
        rw [hoff t hoffb, this]
      · have : ∃ i, i < n ∧ dstOf l.toArray i = some t := by
          refine Classical.byContradiction fun hc => hoffb ?_
          unfold offB
          rw [List.all_eq_true]
          intro i hi
          have : dstOf l.toArray i ≠ some t := fun e => hc ⟨i, List.mem_range.1 hi, e⟩
          simpa using this
        obtain ⟨i, hi, hd⟩ := this
        have h1 := hrel i (blt_t hi) t hd
        rw [look_lt _ ht] at h1
        have h2 := henvat n i t (Nat.le_refl _) hi hd
        rw [hvt] at h2
        rw [h1, h2]
        unfold Vl
        have : i < vs.length := by omega
        simp [List.getD, this]
    rw [hfr]
    exact hK σ' hJ2
variable {ρ : Nat → Value} {v : Value} {r : List Oper} {d : Nat} {op : Op} {ty : TypeId} {pos : String} {af : Array Edge} {gd : Option (Nat × Bool)}
theorem sq (hr : RunV P H N ρ ⟨some d, op, ty, pos, af, none⟩ v) (k : SeqW P ops H N K r (upd ρ d v)) : SeqW P ops H N K (⟨some d, op, ty, pos, af, none⟩ :: r) ρ := ⟨v, d, rfl, .inl ⟨wanted_none _ rfl _, hr⟩, k⟩
theorem sq_g {j : Nat} {b : Bool} (hy : yv ops N ρ j = some b) (hr : RunV P H N ρ ⟨some d, op, ty, pos, af, some (j, b)⟩ v) (k : SeqW P ops H N K r (upd ρ d v)) : SeqW P ops H N K (⟨some d, op, ty, pos, af, some (j, b)⟩ :: r) ρ := ⟨v, d, rfl, .inl ⟨wanted_yes rfl hy, hr⟩, k⟩
theorem sq_skip {j : Nat} {b : Bool} (hy : yv ops N ρ j = some (!b)) (k : SeqW P ops H N K r (upd ρ d undef)) : SeqW P ops H N K (⟨some d, op, ty, pos, af, some (j, b)⟩ :: r) ρ := ⟨undef, d, rfl, .inr ⟨wanted_no rfl hy, rfl⟩, k⟩
theorem sq_end (h : K ρ) : SeqW P ops H N K [] ρ := h
end
end Go.Vs

namespace Go.Vs
open Go

section
variable {P : Program} {ops : Array Oper} {Q : Exit → Act → World → Prop} {n d : Nat} {ρ : Nat → Value} {σ σ0 : St} {w : World} {v : Value} {rest : List Oper} {r : Option Nat}
variable {op : Op} {ty : TypeId} {pos : String} {af : Array Edge} {gd : Option (Nat × Bool)}

end

section
variable {P : Program} {S0 : BS} {σ0 σ : St} {L : List Ch}
theorem Hp.drop : ∀ (R : List Ch) {L : List Ch}, Hp S0 σ0 σ (R ++ L) → Hp S0 σ0 σ L
  | [], _, H => H
  | _ :: R, _, H => Hp.drop R H.tail
end

/-! ## Into and out of functions with such a statement -/
section
variable {P : Program} {ops : Array Oper} {Q : Exit → Act → World → Prop} {n d : Nat} {ρ : Nat → Value} {σ σ0 : St} {w : World} {v : Value} {rest : List Oper} {r : Option Nat} {S0 : BS} {L : List Ch}
variable {op : Op} {ty : TypeId} {pos : String} {af : Array Edge}
end
end Go.Vs

namespace Go.Vs
open Go

inductive Tr (α : Type) where
  | nil
  | node (x : α) (n : Int) (l r : Tr α)
def Tr.get {α : Type} : Tr α → Option (α × Int × Tr α × Tr α)
  | .nil => none
  | .node x n l r => some (x, n, l, r)
def Tr.isNil {α : Type} : Tr α → Bool
  | .nil => true
  | .node .. => false
def Tr.mk {α : Type} (p : α × Int × Tr α × Tr α) : Tr α := .node p.1 p.2.1 p.2.2.1 p.2.2.2
section
variable {α : Type} [Rp α]
def RT (lo : Nat) (σ : St) : Value → Tr α → Prop
  | v, .nil => v = .pointer none
  | v, .node x n l r => ∃ b o c vl vr, v = pt b o ∧ lo ≤ b ∧ o + (Rp.sz α + 3) ≤ σ.vis b ∧ Rp.rp lo σ c x ∧ RT lo σ vl l ∧ RT lo σ vr r ∧
      ∀ j, (h : j < (c ++ [I n, vl, vr]).length) → σ.cell b (o + j) = some (c ++ [I n, vl, vr])[j]

theorem RT.plain {lo : Nat} {σ : St} {v : Value} {t : Tr α} (h : RT lo σ v t) : plain v = true := by
  cases t with
  | nil => rw [show v = .pointer none from h]; rfl
  | node x n l r => obtain ⟨b, o, c, vl, vr, rfl, _⟩ := h; rfl
theorem RT.isPtr {lo : Nat} {σ : St} {v : Value} {t : Tr α} (h : RT lo σ v t) : ∃ a, v = .pointer a := by
  cases t with
  | nil => exact ⟨none, h⟩
  | node x n l r => obtain ⟨b, o, c, vl, vr, rfl, _⟩ := h; exact ⟨_, rfl⟩
theorem RT.extL {lo : Nat} {σ σ' : St} (hE : ExtL lo σ σ') : ∀ {t : Tr α} {v : Value}, RT lo σ v t → RT lo σ' v t
  | .nil, _, h => h
  | .node x n l r, _, ⟨b, o, c, vl, vr, h1, h2, h3, h4, h5, h6, h7⟩ => by
    refine ⟨b, o, c, vl, vr, h1, h2, Nat.le_trans h3 (hE.vis b h2), Rp.extL hE h4, RT.extL hE h5, RT.extL hE h6, fun j hj => ?_⟩
    have hl : (c ++ [I n, vl, vr]).length = Rp.sz α + 3 := by rw [List.length_append, Rp.len h4]; rfl
    rw [hE.cell b _ h2 (by omega)]
    exact h7 j hj
theorem RT.low {lo lo' : Nat} {σ : St} (hl : lo' ≤ lo) : ∀ {t : Tr α} {v : Value}, RT lo σ v t → RT lo' σ v t
  | .nil, _, h => h
  | .node x n l r, _, ⟨b, o, c, vl, vr, h1, h2, h3, h4, h5, h6, h7⟩ => ⟨b, o, c, vl, vr, h1, Nat.le_trans hl h2, h3, Rp.low hl h4, RT.low hl h5, RT.low hl h6, h7⟩
instance : Rp (Tr α) where
  sz := 1
  rp lo σ cs t := ∃ v, cs = [v] ∧ RT lo σ v t
  pos := by decide
  len := by rintro _ _ _ _ ⟨v, rfl, _⟩; rfl
  extL := by rintro _ _ _ _ _ hE ⟨v, rfl, h⟩; exact ⟨v, rfl, h.extL hE⟩
  low := by rintro _ _ _ _ _ hl ⟨v, rfl, h⟩; exact ⟨v, rfl, h.low hl⟩
  one := by
    rintro _ _ _ _ ⟨v, rfl, h⟩ c hc
    simp only [List.mem_singleton] at hc
    rw [hc]; exact h.plain

theorem RT.at' {lo : Nat} {σ : St} {v : Value} {t : Tr α} {p : α × Int × Tr α × Tr α} (h : RT lo σ v t) (hp : t.get = some p) : ∃ b o, v = pt b o ∧ At lo σ b o p := by
  cases t with
  | nil => cases hp
  | node x n l r =>
    cases hp
    obtain ⟨b, o, c, vl, vr, h1, h2, h3, h4, h5, h6, h7⟩ := h
    exact ⟨b, o, h1, c ++ [I n, vl, vr], ⟨c, [I n, vl, vr], rfl, h4, [I n], [vl, vr], rfl, rfl, [vl], [vr], rfl, ⟨vl, rfl, h5⟩, ⟨vr, rfl, h6⟩⟩, h7⟩

theorem RT.ex {lo : Nat} {σ : St} {v : Value} {t : Tr α} {p : α × Int × Tr α × Tr α} (h : RT lo σ v t) (hp : t.get = some p) : ∃ b o, v = pt b o := by
  obtain ⟨b, o, h, _⟩ := h.at' hp
  exact ⟨b, o, h⟩
theorem RT.at {lo : Nat} {σ : St} {v : Value} {t : Tr α} {p : α × Int × Tr α × Tr α} {b o : Nat} (h : RT lo σ v t) (hp : t.get = some p) (hv : v = pt b o) : At lo σ b o p := by
  obtain ⟨b', o', h1, h2⟩ := h.at' hp
  rw [hv] at h1
  cases h1
  exact h2
theorem RT.hmd {S : BS} {lo : Nat} {σ σ' : St} {v u : Value} {t : Tr α} {p : α × Int × Tr α × Tr α} {b o : Nat} (h : RT lo σ v t) (hp : t.get = some p) (hv : v = pt b o) {k : Nat} (hk : k < Rp.sz α + 3)
    (hc : HCell σ.w.heap b (o + k) = some u) (m : Md S σ σ') : HCell σ'.w.heap b (o + k) = some u := by
  cases t with
  | nil => cases hp
  | node x n l r =>
    obtain ⟨b', o', c, vl, vr, h1, h2, h3, _⟩ := h
    rw [hv] at h1
    cases h1
    rw [HCell_eq] at hc ⊢
    exact (m.ext.cell b (o + k) (by omega)).trans hc
theorem At.tree {el : Nat} {σ : St} {b o : Nat} {t : Tr α} (h : At el σ b o t) : ∃ v, HCell σ.w.heap b o = some v ∧ RT el σ v t := by
  obtain ⟨cs, ⟨v, rfl, hR⟩, h2⟩ := h
  exact ⟨v, by rw [HCell_eq]; exact h2 0 (by simp), hR⟩

def Ch.pr (el : Nat) (v : Value) (t : Tr α) : Ch where
  dup := true
  fp _ := False
  as σ := RT el σ v t
  hdup _ _ := id
  hlt _ _ h := h.elim
  hst m _ h := RT.extL (m.ext.extL el) h
variable {S0 : BS} {σ0 σ : St} {L R : List Ch} {el lo b i : Nat} {v : Value} {t : Tr α} {cs : List Value}
theorem Hp.pr (H : Hp S0 σ0 σ L) (i : Nat) (h : nth L i = some (Ch.pr el v t)) : RT el σ v t := H.get h
theorem Hp.nilPr (H : Hp S0 σ0 σ L) (α : Type) [Rp α] (el : Nat) : Hp S0 σ0 σ (Ch.pr el (.pointer none) (Tr.nil : Tr α) :: L) := H.add (d := Ch.pr el _ _) rfl (fun _ h => h)
theorem Hp.pubTr {p : α × Int × Tr α × Tr α} (H : Hp S0 σ0 σ L) (i : Nat) (h : pick L i = some (Ch.bx lo b 0 cs [] [], R)) (hel : el ≤ lo) (hr : Rp.rp el σ cs p) :
    ∃ σ' : St, σ'.w = σ.w ∧ Hp S0 σ0 σ' (Ch.pr el (pt b 0) (Tr.mk p) :: R) ∧ Md (fun c => c = b) σ σ' := by
  have H1 := H.front h
  obtain ⟨⟨T, h1, h2⟩, h3, h4⟩ : Bx σ b ([] ++ (cs ++ [])) ∧ ([] : List Value).length = 0 ∧ lo ≤ b := H1.head
  simp only [List.nil_append, List.append_nil] at h1
  have hb := lt_of_block h1
  have hE := St.pub_ext (σ := σ) (e := cs.length) hb
  have m : Md (fun c => c = b) σ (σ.pub b cs.length hb) := ⟨rfl, rfl, rfl, Nat.le_refl _, hE, fun _ _ _ => rfl, fun c _ hn => by
    show (if c = b then _ else _) = _
    rw [if_neg hn]⟩
  have hlen := Rp.len hr
  refine ⟨σ.pub b cs.length hb, rfl, Hp.frame1 (A' := [Ch.pr el (pt b 0) (Tr.mk p)]) H1 (Hp.one (m.mono fun c hc => .inl hc) ?_ (fun c hc => hc.elim)), m⟩
  have hr' := Rp.ext hE hr
  obtain ⟨c1, c2, rfl, g1, c3, c4, rfl, g3, c5, c6, rfl, ⟨vl, rfl, g5⟩, ⟨vr, rfl, g6⟩⟩ := hr'
  obtain rfl : c3 = [I p.2.1] := g3
  refine ⟨b, 0, c1, vl, vr, rfl, Nat.le_trans hel h4, ?_, g1, g5, g6, fun j hj => ?_⟩
  · show _ ≤ (if b = b then _ else _)
    rw [if_pos rfl]
    have := Rp.len g1
    simp only [List.length_append, List.length_cons, List.length_nil]
    omega
  · show σ.cell b (0 + j) = _
    rw [← congrFun (congrFun (congrFun (show (fun (σ : St) b o => HCell σ.w.heap b o) = fun σ b o => σ.cell b o from by funext σ b o; exact HCell_eq ..) σ) b) (0 + j)]
    show HCell σ.w.heap b (0 + j) = _
    rw [Nat.zero_add]
    unfold HCell
    rw [h1]
    simp only [List.getElem?_toArray]
    exact List.getElem?_eq_getElem hj
end

section
variable {α : Type} [Rp α] {P : Program} {H : Array Obj} {n lo : Nat} {ρ : Nat → Value} {d : Option Nat} {ty T T' : TypeId} {pos : String} {af : Array Edge} {gd : Option (Nat × Bool)} {x y : Operand} {v : Value} {t : Tr α} {σ : St}
theorem rv_nilCheckT {b o : Nat} (hv : v = pt b o) (hx : ev n ρ x = v) : RunV P H n ρ ⟨d, .nilCheck x, ty, pos, af, gd⟩ (pt b o) := rv_nilCheck (hx.trans hv)
theorem run_equal_nil {E : TypeId} (hT : P.underlying T = some (.pointer E)) (hR : RT lo σ v t) (w : World) : (Op.equal T v (.pointer none)).run P w = .ok t.isNil w := by
  cases t with
  | nil =>
    have hv : v = .pointer none := hR
    subst hv
    show (Op.equalIn (9999 + 1) T (.pointer none) (.pointer none)).run P w = _
    rw [Op.equalIn]
    simp only [underlying, Sem.run_bind, run_program, Result.andThen_ok, hT, Sem.run_pure]
    rfl
  | node z m l r =>
    obtain ⟨b, o, c, vl, vr, rfl, _⟩ := hR
    show (Op.equalIn (9999 + 1) T (pt b o) (.pointer none)).run P w = _
    rw [Op.equalIn]
    simp only [underlying, Sem.run_bind, run_program, Result.andThen_ok, hT, Sem.run_pure]
    rfl
theorem rv_eqlNil {E : TypeId} (hT : P.underlying T = some (.pointer E)) (hR : RT lo σ v t) (hx : ev n ρ x = v) (hy : ev n ρ y = .pointer none) : RunV P H n ρ ⟨d, .binOp .eql T x y T', ty, pos, af, gd⟩ (B t.isNil) := fun w _ => by
  have hv : ∃ a, v = .pointer a := by
    cases t with
    | nil => exact ⟨none, hR⟩
    | node z m l r => obtain ⟨b, o, c, vl, vr, rfl, _⟩ := hR; exact ⟨_, rfl⟩
  obtain ⟨a, rfl⟩ := hv
  simp [execOp, hx, hy, eqGuard, binOp, run_equal_nil hT hR]
theorem rv_neqNil {E : TypeId} (hT : P.underlying T = some (.pointer E)) (hR : RT lo σ v t) (hx : ev n ρ x = v) (hy : ev n ρ y = .pointer none) : RunV P H n ρ ⟨d, .binOp .neq T x y T', ty, pos, af, gd⟩ (B (!t.isNil)) := fun w _ => by
  have hv : ∃ a, v = .pointer a := by
    cases t with
    | nil => exact ⟨none, hR⟩
    | node z m l r => obtain ⟨b, o, c, vl, vr, rfl, _⟩ := hR; exact ⟨_, rfl⟩
  obtain ⟨a, rfl⟩ := hv
  simp [execOp, hx, hy, eqGuard, binOp, run_equal_nil hT hR]
end
end Go.Vs

namespace Go.Vs
open Go

instance : Rp Value where
  sz := 1
  rp _ _ cs x := cs = [x] ∧ plain x = true
  pos := by decide
  len := by rintro _ _ _ _ ⟨rfl, _⟩; rfl
  extL := fun _ h => h
  low := fun _ h => h
  one := by rintro _ _ _ _ ⟨rfl, h⟩; simpa using h
instance : Sc Value := ⟨fun h => h⟩

section
variable {S0 : BS} {σ0 σ : St} {L K R : List Ch} {c : Ch}
end

class Dl (α : Type) (β : outParam Type) [Rp α] [Rp β] where
  sh : α → Value → β
  inn : α → List Int
  sz : Rp.sz α = Rp.sz β
  rp : ∀ {lo lo' : Nat} {σ : St} {cs : List Value} {x : α} {h : Value}, Rp.rp lo σ cs (sh x h) → RS lo' σ h (inn x) → Rp.rp lo' σ cs x
instance : Dl (List Int) Value where
  sh _ h := h
  inn x := x
  sz := rfl
  rp := by rintro _ _ _ _ _ _ ⟨rfl, _⟩ h; exact ⟨_, rfl, h⟩
instance : Dl (Int × List Int × Int) (Int × Value × Int) where
  sh x h := (x.1, h, x.2.2)
  inn x := x.2.1
  sz := rfl
  rp := by
    rintro _ _ _ _ _ _ ⟨_, _, rfl, h1, ⟨_, _, rfl, ⟨rfl, _⟩, h3⟩⟩ h
    exact ⟨_, _, rfl, h1, ⟨_, _, rfl, ⟨_, rfl, h⟩, h3⟩⟩

section
variable {α β : Type} [Rp α] [Rp β] [Dl α β]
def dsh (p : α × Value) : β := Dl.sh p.1 p.2
def dow (lo : Nat) (p : α × Value) : Ch := Ch.own lo lo p.2 (Dl.inn p.1)

structure Dp (lo : Nat) (v : Value) (xs : List α) (K : List Ch) : Prop where
  ex : ∃ ps : List (α × Value), xs = ps.map (·.1) ∧ K = Ch.own lo lo v (ps.map dsh) :: ps.map (dow lo)

end

/-! ## Filling -/
end Go.Vs
