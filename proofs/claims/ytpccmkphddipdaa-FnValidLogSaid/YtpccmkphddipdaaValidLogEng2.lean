/- What a function of the program does to its memory, step by step. -/
import Derived.Test.YtpccmkphddipdaaValidLogEng1
set_option linter.unusedVariables false
set_option linter.unusedSimpArgs false
namespace Go.Vs
open Go

section
variable {α β : Type} [Rp α] [Rp β] [Dl α β] {S0 : BS} {σ0 σ σ' : St} {L K R : List Ch} {lo i : Nat} {v u : Value} {xs : List α} {a : Int} {e : α}

omit [Rp α] [Rp β] [Dl α β] in
theorem gidx_of_map {γ : Type} (f : γ → α) {ps : List γ} {a : Int} {p : γ} (h : gidx ps a = some p) : gidx (ps.map f) a = some (f p) := by
  unfold gidx at *
  split at h
  · rename_i h0
    rw [if_pos h0, List.getElem?_map, h]; rfl
  · cases h
/-- .. of which the memory of one element, e at a with the slice u, has been taken out. -/
structure DpH (lo : Nat) (v : Value) (xs : List α) (a : Int) (e : α) (u : Value) (K : List Ch) : Prop where
  ex : ∃ A B : List (α × Value), xs = (A ++ (e, u) :: B).map (·.1) ∧ a = (A.length : Int) ∧ K = Ch.own lo lo v ((A ++ (e, u) :: B).map dsh) :: (A ++ B).map (dow lo)
theorem DpH.at {b o : Nat} (hK : DpH lo v xs a e u K) (H : Hp S0 σ0 σ L) (i : Nat) (hn : nth L i = some (Ch.big K)) (hi : Ix v a (Rp.sz α) b o) : At lo σ b o (Dl.sh e u) := by
  have hb : allAs σ K ∧ apart K := H.get hn
  obtain ⟨A, B, rfl, rfl, rfl⟩ := hK.ex
  have hO : Ow σ lo lo v ((A ++ (e, u) :: B).map dsh) := hb.1.1
  have hg : gidx ((A ++ (e, u) :: B).map (dsh (α := α) (β := β))) (A.length : Int) = some (Dl.sh e u) := by
    refine gidx_of_map dsh (p := (e, u)) ?_
    unfold gidx
    rw [if_pos (by omega)]
    simp
  rw [Dl.sz (α := α) (β := β)] at hi
  exact hO.at hg hi
theorem At.val {b o : Nat} {u : Value} (h : At lo σ b o u) : HCell σ.w.heap b o = some u := by
  obtain ⟨cs, ⟨rfl, _⟩, h2⟩ := h
  rw [HCell_eq]; exact h2 0 (by simp)
end

section
variable {α β : Type} [Rp α] [Rp β] [Dl α β] {S0 : BS} {σ0 σ σ' : St} {L K R : List Ch} {lo i : Nat} {v u u' w : Value} {xs : List α} {a : Int} {e : α}
/-- What is stored into the element whose memory is out; its memory comes in. -/
theorem DpH.put (hK : DpH lo v xs a e u K) (e' : α) (u' : Value) : ∃ K2, Dp lo v (xs.set a.toNat e') K2 ∧ ∀ {P : Program} {n : Nat} {ρ : Nat → Value} {dst : Option Nat} {ty T : TypeId} {z : Value} {s bt : Nat} {pos : String} {af : Array Edge} {gd : Option (Nat × Bool)} {x y : Operand} {w : Value} {bl o o' k : Nat} {vs : List Value} {S0 : BS} {σ0 σ : St} {R : List Ch},
    Hp S0 σ0 σ (Ch.big K :: Ch.own lo lo u' (Dl.inn e') :: R) → TI P T z s bt → Ix v a (Rp.sz α) bl o → ev n ρ x = pt bl o' → o' = o + k → ev n ρ y = w → w.cells = vs.toArray → vs.length = s → k + vs.length ≤ Rp.sz α → (∀ t ∈ vs, plain t = true) →
    (∀ {σ : St} cs, Rp.rp lo σ cs (Dl.sh e u) → Rp.rp lo σ (wrL cs k vs) (Dl.sh e' u')) →
    ExS P σ n ρ ⟨dst, .store T x y, ty, pos, af, gd⟩ fun σ' => Hp S0 σ0 σ' (Ch.big K2 :: R) ∧ Md (fun b => blk v = some b) σ σ' := by
  obtain ⟨A, B, rfl, rfl, rfl⟩ := hK.ex
  have hset : ((A ++ (e, u) :: B).map (dsh (α := α) (β := β))).set (A.length : Int).toNat (Dl.sh e' u') = (A ++ (e', u') :: B).map dsh := by
    rw [Int.toNat_natCast, List.map_append, List.set_append_right _ _ (by simp), List.length_map, Nat.sub_self, List.map_cons, List.set_cons_zero, List.map_append]; rfl
  refine ⟨_, ⟨⟨A ++ (e', u') :: B, ?_, rfl⟩⟩, ?_⟩
  · rw [Int.toNat_natCast, List.map_append, List.set_append_right _ _ (by simp), List.length_map, Nat.sub_self, List.map_cons, List.set_cons_zero, List.map_append]; rfl
  intro P n ρ dst ty T z s bt pos af gd x y w bl o o' k vs S0 σ0 σ R H hT hi hx ho hy hw hs hk hp hrp
  have H1 := H.unbig
  have hg : gidx ((A ++ (e, u) :: B).map (dsh (α := α) (β := β))) (A.length : Int) = some (Dl.sh e u) := by
    refine gidx_of_map dsh (p := (e, u)) ?_
    unfold gidx
    rw [if_pos (by omega)]
    simp
  rw [Dl.sz (α := α) (β := β)] at hi hk
  obtain ⟨σ', h1, H2, m⟩ := ex_store_own (P := P) (dst := dst) (ty := ty) (pos := pos) (af := af) (gd := gd) (e' := Dl.sh e' u') H1 (i := 0) rfl hT hg hi hx ho hy hw hs hk hp (hrp (σ := σ))
  refine ⟨σ', h1, ?_, m⟩
  rw [hset] at H2
  have H3 := H2.tail
  rw [List.map_append (f := dow lo)] at H3
  have H4 := Hp.bigPut (A := A.map (dow lo)) (c := Ch.own lo lo u' (Dl.inn e')) (B := B.map (dow lo)) (H3.front (i := 1) rfl)
  have H5 : Hp S0 σ0 σ' (Ch.own lo lo v ((A ++ (e', u') :: B).map dsh) :: Ch.big (A.map (dow lo) ++ Ch.own lo lo u' (Dl.inn e') :: B.map (dow lo)) :: R) := by
    refine ⟨H2.md, ⟨H2.all.1, H4.all⟩, ⟨fun j hj hc => ?_, H4.ap⟩, fun j hj => ?_⟩
    · refine H2.ap.1 j hj ?_
      rcases hc with hc | hc
      · rcases cov_append.1 hc with hc | hc | hc
        · refine .inl ?_; rw [List.map_append]; exact cov_append.2 (.inl hc)
        · exact .inr (.inl hc)
        · refine .inl ?_; rw [List.map_append]; exact cov_append.2 (.inr hc)
      · exact .inr (.inr hc)
    · rcases hj with hj | hj
      · exact H2.org j (.inl hj)
      · exact H4.org j hj
  have H6 := H5.bigCons
  rw [List.map_append (f := dow lo), List.map_cons (f := dow lo)]
  exact H6
end

section
variable {α β : Type} [Rp α] [Rp β] [Dl α β] {S0 : BS} {σ0 σ σ' : St} {L K R : List Ch} {lo i m : Nat} {v : Value} {xs : List α}
theorem Ab.big {K : List Ch} (h : AllAb m K) : Ab m (Ch.big K) := fun _ _ hw hv ha => ⟨allAb_as hw h hv ha.1, ha.2⟩
end

section
variable {α β : Type} [Rp α] [Rp β] [Dl α β] {S0 : BS} {σ0 σ σ' : St} {L K R : List Ch} {lo lo' i m : Nat} {v : Value} {xs : List α}
end

section
variable {α : Type} [Rp α] [Sc α] {S0 : BS} {σ0 σ : St} {L R : List Ch} {lo el : Nat} {v : Value} {xs : List α}
end
end Go.Vs

namespace Go.Vs

end Go.Vs

namespace Go.Vs
end Go.Vs

namespace Go.Vs
end Go.Vs

namespace Go.Vs
def If2 (A B : Type) : Type := Int × A × B
@[reducible] def If2.mk {A B : Type} (k : Int) (a : A) (b : B) : If2 A B := (k, a, b)
end Go.Vs

namespace Go.Vs
open Go

def ifs2 (k : Int) (a b : Value) : Value := bif k == 1 then a else bif k == 2 then b else .nilIface
section
variable {P : Program} {H : Array Obj} {n : Nat} {ρ : Nat → Value} {dst : Option Nat} {ty T T' T0 : TypeId} {pos : String} {af : Array Edge} {gd : Option (Nat × Bool)} {x y : Operand} {v : Value} {t : TypeId} {ms : Array (String × TypeId)} {D : TypeDesc}

end
end Go.Vs

namespace Go.Vs
open Go

theorem ifs2_plain {k : Int} {t1 t2 : TypeId} {a b : Value} : plain (ifs2 k (.iface t1 a) (.iface t2 b)) = true := by
  unfold ifs2; cases k == 1 <;> cases k == 2 <;> rfl
theorem plain2 {k : Int} {t1 t2 : TypeId} {a b : Value} : ∀ u ∈ [ifs2 k (.iface t1 a) (.iface t2 b)], plain u = true := fun u hu => by
  rw [List.mem_singleton.1 hu]; exact ifs2_plain
theorem ifs2_cells {k : Int} {t1 t2 : TypeId} {a b : Value} : (ifs2 k (.iface t1 a) (.iface t2 b)).cells = [ifs2 k (.iface t1 a) (.iface t2 b)].toArray := by
  unfold ifs2; cases k == 1 <;> cases k == 2 <;> rfl
/-- What represents such a value: the number of the type, and both parts. -/
@[reducible] def rp2 (t1 t2 : TypeId) {A B : Type} [Rp A] [Rp B] : Rp (If2 A B) where
  sz := 1
  rp lo σ cs x := ∃ c1 c2, Rp.rp lo σ c1 x.2.1 ∧ Rp.rp lo σ c2 x.2.2 ∧ cs = [ifs2 x.1 (.iface t1 (.agg c1.toArray)) (.iface t2 (.agg c2.toArray))]
  pos := by decide
  len := by rintro _ _ _ _ ⟨c1, c2, _, _, rfl⟩; rfl
  extL := by rintro _ _ _ _ _ hE ⟨c1, c2, h1, h2, e⟩; exact ⟨c1, c2, Rp.extL hE h1, Rp.extL hE h2, e⟩
  low := by rintro _ _ _ _ _ hl ⟨c1, c2, h1, h2, e⟩; exact ⟨c1, c2, Rp.low hl h1, Rp.low hl h2, e⟩
  one := by
    rintro _ _ _ _ ⟨c1, c2, _, _, rfl⟩ c hc
    rw [List.mem_singleton] at hc
    rw [hc]; exact ifs2_plain
end Go.Vs
