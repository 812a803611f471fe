/- What a function of the program does to its memory, step by step. -/
import Derived.Test.YtfcemgcmpcmgcabGreatDoorExactRunSessionEng1
import Derived.ProofKit
import Derived.SizedLaws
import Derived.Deep.Strs
import Derived.Stop.LaidErr
import Derived.RangeFuncLeaves
import Derived.RangeFuncSeq
import Derived.TacticsIn
import Derived.Sort.LoopGhostIn
import Derived.LaidEql
import Derived.Maps.RangeRun
set_option linter.unusedVariables false
set_option linter.unusedSimpArgs false
namespace Go.Vs
open Go

def gcopyAt {α : Type} (xs : List α) (l n : Nat) (ys : List α) : List α := xs.take l ++ (ys.take n ++ xs.drop (l + min n ys.length))
theorem gcopyAt_len {α : Type} {xs ys : List α} {l n : Nat} (h : l + n ≤ xs.length) : (gcopyAt xs l n ys).length = xs.length := by
  unfold gcopyAt; simp only [List.length_append, List.length_take, List.length_drop]; omega
def gappz {α : Type} (xs : List α) (k : Int) (z : α) : Option (List α) := if 0 ≤ k ∧ xs.length + k.toNat ≤ 2147483648 then some (xs ++ List.replicate k.toNat z) else none
theorem gappz_some {α : Type} {xs r : List α} {k : Int} {z : α} (h : gappz xs k z = some r) : 0 ≤ k ∧ xs.length + k.toNat ≤ 2147483648 ∧ r = xs ++ List.replicate k.toNat z := by
  unfold gappz at h; split at h
  · rename_i hc; exact ⟨hc.1, hc.2, (Option.some.inj h).symm⟩
  · cases h
def gthree (l h m : Int) (n : Nat) : Option Unit := if 0 ≤ l ∧ l ≤ h ∧ h ≤ m ∧ m ≤ (n : Int) then some () else none
theorem gthree_some {l h m : Int} {n : Nat} {u : Unit} (hg : gthree l h m n = some u) : 0 ≤ l ∧ l ≤ h ∧ h ≤ m ∧ m ≤ (n : Int) := by
  unfold gthree at hg; split at hg
  · assumption
  · cases hg

section
variable {P : Program} {n : Nat} {ρ : Nat → Value} {σ0 σ : St} {S0 : BS} {L R : List Ch} {u v : Value} {T T' E E' ty : TypeId} {pos : String} {af : Array Edge} {gd : Option (Nat × Bool)} {dst : Option Nat} {x y q : Operand} {a l h k m : Int} {lo el bt s c c' : Nat} {z : Value}
variable {α : Type} [Rp α] {xs ys p r : List α} {ad ad' : Option Addr} {H : Array Obj}

theorem Ow.view (hO : Ow σ lo el (Sl ad xs c) xs) (hg : gslice xs l h = some p) (hs : Slc ad xs.length c (Rp.sz α) l h ad' p.length c') : Ow σ lo el (Sl ad' p c') p ∧ ∀ b, blk (Sl ad' p c') = some b → blk (Sl ad xs c) = some b := by
  obtain ⟨ad2, c2, hs2, h1, h2⟩ := hO.slice hg
  have e1 : ad' = ad2 := hs.ea.trans hs2.ea.symm
  have e2 : c' = c2 := hs.ec.trans hs2.ec.symm
  subst e1 e2
  exact ⟨h1, h2⟩

theorem Rd.first (hS : Rd el σ u ys) (k : Nat) (hk : k ≤ ys.length) : ∃ K : List Value, K.length = k * Rp.sz α ∧ (∀ i, (hi : i < k) → ∃ cs, Rp.rp el σ cs (ys[i]'(by omega)) ∧ ∀ j, (hj : j < cs.length) → K[i * Rp.sz α + j]? = some cs[j]) ∧ (∀ t ∈ K, Go.Vs.plain t = true) ∧ (Builtin.firstCells (Rp.sz α) k u).run P σ.w = .ok K.toArray σ.w := by
  obtain ⟨K, h1, h2, h3⟩ := hS.row
  have hle : k * Rp.sz α ≤ ys.length * Rp.sz α := Nat.mul_le_mul_right _ hk
  refine ⟨K.take (k * Rp.sz α), by rw [List.length_take]; omega, fun i hi => ?_, fun t ht => Rd.plain h1 h2 t (List.mem_of_mem_take ht), ?_⟩
  · obtain ⟨cs, h4, h5⟩ := h2 i (by omega)
    refine ⟨cs, h4, fun j hj => ?_⟩
    have hl := Rp.len h4
    have : (i + 1) * Rp.sz α ≤ k * Rp.sz α := Nat.mul_le_mul_right _ hi
    rw [Nat.add_mul] at this
    rw [List.getElem?_take, if_pos (by omega)]
    exact h5 j hj
  · rcases h3 with ⟨⟨ad, c, rfl⟩, rfl⟩ | ⟨b, o, c, rfl, h3⟩
    · have : k = 0 := by simpa using hk
      subst this
      cases ad with
      | none => simp [Builtin.firstCells]
      | some a => simp [Builtin.firstCells, loadCells, loadCellsFrom]
    · have := run_loadCellsFrom (P := P) σ.w b o (k * Rp.sz α) 0 (K.take (k * Rp.sz α)) [] (by rw [List.length_take]; omega) (fun j hj => by
        rw [List.length_take] at hj
        have := h3 j (by omega)
        simp only [Nat.zero_add, List.getElem_take]
        exact this)
      simpa [Builtin.firstCells, loadCells] using this

theorem Ow.write {b o : Nat} {C : Array Value} {T0 : TypeId} {K : List Value} {j : Nat} (h2 : lo ≤ b) (h3 : σ.w.heap[b]? = some (.cells C T0 (0, 0))) (h4 : xs.length ≤ c) (h5 : o + c * Rp.sz α ≤ C.size) (h6 : σ.vis b = 0)
    (h7 : ∀ i, (h : i < xs.length) → At el σ b (o + i * Rp.sz α) xs[i]) (hK : K.length = ys.length * Rp.sz α) (hj : j + ys.length ≤ xs.length)
    (hr : ∀ i, (hi : i < ys.length) → ∃ cs, Rp.rp el σ cs ys[i] ∧ ∀ k, (hk : k < cs.length) → K[i * Rp.sz α + k]? = some cs[k]) :
    Ow (σ.put b (.cells (wr C (o + j * Rp.sz α) K) T0 (0, 0))) lo el (Sl (some ⟨b, o, none⟩) xs c) (xs.take j ++ (ys ++ xs.drop (j + ys.length))) := by
  have hlen : (xs.take j ++ (ys ++ xs.drop (j + ys.length))).length = xs.length := by simp; omega
  have hbound : o + j * Rp.sz α + K.length ≤ C.size := by
    have : (j + ys.length) * Rp.sz α ≤ c * Rp.sz α := Nat.mul_le_mul_right _ (by omega)
    rw [Nat.add_mul] at this; omega
  refine .inr ⟨b, o, c, _, T0, by rw [hlen], h2, World.put_at _ (lt_of_block h3), by rw [hlen]; exact h4, by rw [wr_size]; exact h5, h6, fun i hi => ?_⟩
  rw [hlen] at hi
  by_cases c1 : i < j
  · have e : (xs.take j ++ (ys ++ xs.drop (j + ys.length)))[i]'(by omega) = xs[i] := by
      rw [List.getElem_append_left (by simp; omega), List.getElem_take]
    rw [e]
    have : (i + 1) * Rp.sz α ≤ j * Rp.sz α := Nat.mul_le_mul_right _ c1
    rw [Nat.add_mul] at this
    exact (h7 i hi).put h3 h6 (fun k hk => wr_lt _ _ _ _ (by omega))
  · by_cases c2 : i < j + ys.length
    · have e : (xs.take j ++ (ys ++ xs.drop (j + ys.length)))[i]'(by omega) = ys[i - j]'(by omega) := by
        rw [List.getElem_append_right (by simp; omega), List.getElem_append_left (by simp; omega)]
        congr 1; simp; omega
      rw [e]
      obtain ⟨cs, g1, g2⟩ := hr (i - j) (by omega)
      refine At.ofCells (World.put_at _ (lt_of_block h3)) (Rp.ext (St.put_ext h6) g1) (fun k hk => ?_)
      have hl := Rp.len g1
      have hlt : (i - j) * Rp.sz α + k < K.length := by
        have : (i - j + 1) * Rp.sz α ≤ ys.length * Rp.sz α := Nat.mul_le_mul_right _ (by omega)
        rw [Nat.add_mul] at this; omega
      have e1 := wr_in K C (o + j * Rp.sz α) ((i - j) * Rp.sz α + k) hbound hlt
      have e2 := g2 k hk
      rw [List.getElem?_eq_getElem hlt] at e2
      have e3 : o + i * Rp.sz α + k = o + j * Rp.sz α + ((i - j) * Rp.sz α + k) := by
        have : i * Rp.sz α = j * Rp.sz α + (i - j) * Rp.sz α := by rw [← Nat.add_mul]; congr 1; omega
        omega
      rw [e3, e1, e2]
    · have e : (xs.take j ++ (ys ++ xs.drop (j + ys.length)))[i]'(by omega) = xs[i] := by
        rw [List.getElem_append_right (by simp; omega), List.getElem_append_right (by simp; omega), List.getElem_drop]
        congr 1; simp; omega
      rw [e]
      have h8 : (j + ys.length) * Rp.sz α ≤ i * Rp.sz α := Nat.mul_le_mul_right _ (by omega)
      rw [Nat.add_mul] at h8
      exact (h7 i hi).put h3 h6 (fun k hk => wr_ge _ _ _ _ (by omega))

theorem ex_copyV {i : Nat} (H : Hp S0 σ0 σ L) (hpk : pick L i = some (Ch.own lo el (Sl ad xs c) xs, R)) (hT : P.underlying T = some (.slice E)) (hi : TI P E z s bt) (hs : s = Rp.sz α)
    (hg : gslice xs l h = some p) (hv : Slc ad xs.length c (Rp.sz α) l h ad' p.length c') (hS : Rd el σ u ys) (hx : ev n ρ x = Sl ad' p c') (hy : ev n ρ y = u) :
    Ex P σ n ρ ⟨dst, .call ⟨.builtin .copy, #[x, y], #[T, T']⟩, ty, pos, af, gd⟩ fun v' σ' => v' = I (min ys.length p.length : Nat) ∧ Hp S0 σ0 σ' (Ch.own lo el (Sl ad xs c) (gcopyAt xs l.toNat p.length ys) :: R) ∧ Md (fun b => blk (Sl ad xs c) = some b) σ σ' := by
  subst hs
  obtain ⟨h0, h1, h2, _, hpl⟩ := gslice_some hg
  have hO : Ow σ lo el (Sl ad xs c) xs := (H.front hpk).head
  have hlen : ∀ w, (Builtin.lenOf u).run P w = .ok ys.length w := by
    intro w
    obtain ⟨ad, c, rfl⟩ := hS.isSl
    rfl
  obtain ⟨K, k1, k2, k3, k4⟩ := hS.first (P := P) (Nat.min ys.length p.length) (Nat.min_le_left _ _)
  have hlt : (ys.take (min ys.length p.length)).length = min ys.length p.length := by rw [List.length_take]; omega
  have hrun : ∀ w', (match ad' with | some a => storeCells a K | none => pure ()).run P σ.w = .ok () w' → (execOp (ev n ρ) ⟨dst, .call ⟨.builtin .copy, #[x, y], #[T, T']⟩, ty, pos, af, gd⟩).run P σ.w = .ok (.value (I (min ys.length p.length : Nat))) w' := by
    intro w' hw
    simp only [execOp, resolve, List.map_toArray, List.map_cons, List.map_nil, hx, hy, Sem.run_bind, Sem.run_pure, Result.andThen_ok, invoke, builtin, Builtin.copy_, List.getElem?_toArray, List.getElem?_cons_zero, List.getElem?_cons_succ, underlying, hT, run_program, hlen, run_typeInfo hi, k4]
    cases ad' with
    | none =>
      simp only [Sem.run_pure, Result.ok.injEq, true_and] at hw
      subst hw; rfl
    | some a =>
      simp only at hw
      simp only [Sem.run_bind, hw, Result.andThen_ok, Sem.run_pure]; rfl
  have hre : gcopyAt xs l.toNat p.length ys = xs.take l.toNat ++ (ys.take (min ys.length p.length) ++ xs.drop (l.toNat + (ys.take (min ys.length p.length)).length)) := by
    unfold gcopyAt
    rw [hlt, Nat.min_comm p.length]
    congr 2
    by_cases hc : ys.length ≤ p.length
    · rw [Nat.min_eq_left hc, List.take_of_length_le hc, List.take_of_length_le (Nat.le_refl _)]
    · rw [Nat.min_eq_right (by omega)]
  by_cases hzero : min ys.length p.length = 0
  · -- nothing is copied
    have hK : K = [] := List.eq_nil_of_length_eq_zero (by rw [k1]; show min ys.length p.length * _ = 0; rw [hzero]; simp)
    subst hK
    refine ⟨_, σ, hrun σ.w (by cases ad' <;> rfl), rfl, ?_, Md.refl _ _⟩
    have e : gcopyAt xs l.toNat p.length ys = xs := by
      rw [hre, hzero]; simp
    rw [e]; exact H.front hpk
  · rcases hO with ⟨hn, hxs⟩ | ⟨b, o, c0, C, T0, hv0, g2, g3, g4, g5, g6, g7⟩
    · subst hxs; simp only [List.length_nil] at h2; omega
    · cases hv0
      have ha : ad' = some ⟨b, o + l.toNat * Rp.sz α, none⟩ := by
        have := hv.ea
        rw [if_neg (by have := hv.h3; omega)] at this
        rw [this]; simp [add_plain]
      have hj : l.toNat + (ys.take (min ys.length p.length)).length ≤ xs.length := by rw [hlt]; omega
      have hst := run_storeCells (P := P) b (o + l.toNat * Rp.sz α) T0 K 0 σ.w C g3 (by
        have : (l.toNat + min ys.length p.length) * Rp.sz α ≤ c * Rp.sz α := Nat.mul_le_mul_right _ (by omega)
        rw [Nat.add_mul] at this
        rw [k1]
        show _ + 0 + min ys.length p.length * _ ≤ _
        omega) k3
      simp only [Nat.add_zero] at hst
      have m : Mod (blk (Sl (some ⟨b, o, none⟩) xs c)) σ (σ.put b (.cells (wr C (o + l.toNat * Rp.sz α) K) T0 (0, 0))) := St.put_mod g6
      refine ⟨_, σ.put b (.cells (wr C (o + l.toNat * Rp.sz α) K) T0 (0, 0)), hrun _ (by rw [ha]; exact hst), rfl, ?_, m.md⟩
      rw [hre]
      exact frame_own H hpk m (Ow.write g2 g3 g4 g5 g6 g7 (by rw [hlt, k1]) hj (fun i hi => by
        rw [hlt] at hi
        obtain ⟨cs, r1, r2⟩ := k2 i hi
        exact ⟨cs, by rw [List.getElem_take]; exact r1, r2⟩)) (.inl rfl)

theorem ex_appV {i : Nat} (H : Hp S0 σ0 σ L) (hpk : pick L i = some (Ch.own lo el (Sl ad xs c) xs, R)) (hT : P.underlying T = some (.slice E)) (hT' : P.underlying T' = some (.slice E')) (hi : TI P E z s bt) (hs : s = Rp.sz α) (hzs : z.cells.size = s) (hbt : bt ≤ 1024)
    (hg : gslice xs l h = some p) (hv : Slc ad xs.length c (Rp.sz α) l h ad' p.length c') (hS : Rd el σ u ys) (hr : gapp p ys = some r) (hlo : lo ≤ σ0.size) (hx : ev n ρ x = Sl ad' p c') (hy : ev n ρ y = u) :
    Ex P σ n ρ ⟨dst, .call ⟨.builtin .append, #[x, y], #[T, T']⟩, ty, pos, af, gd⟩ fun v' σ' => ∃ a2 c2, v' = Sl a2 r c2 ∧ Hp S0 σ0 σ' (Ch.own lo el (Sl a2 r c2) r :: R) ∧ Md (fun b => blk (Sl ad xs c) = some b) σ σ' ∧ (p.length + ys.length ≤ c' → c2 = c') := by
  obtain ⟨hlen, rfl⟩ := gapp_some hr
  obtain ⟨hO, hb⟩ := ((H.front hpk).head : Ow σ lo el (Sl ad xs c) xs).view hg hv
  obtain ⟨a2, c2, σ', h1, h2, h3, h4, h5⟩ := run_append (ty := ty) hT hT' hi hs hzs hbt hO hS hlen (Nat.le_trans hlo H.size)
  have hm : Md (fun b => blk (Sl ad xs c) = some b) σ σ' := h2.md.mono (fun b hb' => hb b hb')
  refine ⟨_, σ', ?_, a2, c2, rfl, Hp.frame1 (A' := [Ch.own lo el (Sl a2 (p ++ ys) c2) (p ++ ys)]) (H.front hpk) (Hp.one (hm.mono fun b hb => .inl hb) h3 (fun b hb' hlt => ?_)), hm, fun hf => h5 _ _ _ rfl hf⟩
  · simp only [RunW, execOp, resolve, List.map_toArray, List.map_cons, List.map_nil, hx, hy, Sem.run_bind, Sem.run_pure, Result.andThen_ok, invoke, builtin, h1]
  · rcases h4 with h4 | h4
    · exact .inl (hb b (h4 ▸ hb'))
    · exact absurd hlt (Nat.not_lt.2 (h4 b hb'))

theorem ex_appZ {i : Nat} {z0 : α} {zs : List Value} (H : Hp S0 σ0 σ L) (hpk : nth L i = some (Ch.own lo el (Sl ad xs c) xs)) (hT : P.underlying T = some (.slice E)) (hT' : P.underlying T' = some (.int .i64)) (hi : TI P E z s bt) (hs : s = Rp.sz α) (hzc : z.cells = zs.toArray) (hz : Rp.rp el σ zs z0) (hbt : bt ≤ 1024)
    (ht : c = xs.length) (hg : gslice xs 0 h = some p) (hv : Slc ad xs.length c (Rp.sz α) 0 h ad' p.length c') (hr : gappz p k z0 = some r) (hnew : (xs.length : Int) < p.length + k) {lo' : Nat} (hlo : lo' ≤ σ0.size) (hx : ev n ρ x = Sl ad' p c') (hy : ev n ρ y = I k) :
    Ex P σ n ρ ⟨dst, .call ⟨.builtin .append, #[x, y], #[T, T']⟩, ty, pos, af, gd⟩ fun v' σ' => ∃ b c2, v' = Sl (some ⟨b, 0, none⟩) r c2 ∧ Hp S0 σ0 σ' (Ch.own lo' el (Sl (some ⟨b, 0, none⟩) r c2) r :: L) ∧ Md (cov []) σ σ' := by
  obtain ⟨hk0, hlen, rfl⟩ := gappz_some hr
  obtain ⟨kn, rfl⟩ := Int.eq_ofNat_of_zero_le hk0
  simp only [Int.toNat_natCast] at hlen ⊢
  obtain ⟨hO, _⟩ := (H.get hpk : Ow σ lo el (Sl ad xs c) xs).view hg hv
  obtain ⟨i0, hi1, hi2, hi3, hi4⟩ := hi.it
  have hTI := hi
  subst hs
  obtain ⟨K, hK1, hK2, hK3⟩ := hO.rd.row
  have hcp : c' = xs.length := by rw [hv.ec, ht]; simp
  have hcap : ¬ p.length + kn ≤ c' := by omega
  have hzl : zs.length = Rp.sz α := Rp.len hz
  have hn := nextslicecap_le (need := p.length + kn) (c := c') (by omega)
  have hbig : ¬ Builtin.nextslicecap (p.length + kn) c' * bt > 2 ^ 48 := by
    have h1 : Builtin.nextslicecap (p.length + kn) c' * bt ≤ (2 * (p.length + kn) + 300) * 1024 := Nat.mul_le_mul hn hbt
    have h2 : (2 : Nat) ^ 48 = 281474976710656 := by decide
    omega
  have hsm : ¬ (kn : Int) * (bt : Int) > 2 ^ 48 := by
    have h1 : kn * bt ≤ 2147483648 * 1024 := Nat.mul_le_mul (by omega) hbt
    have h2 : (2 : Int) ^ 48 = 281474976710656 := by decide
    rw [h2, ← Int.natCast_mul]; omega
  have hmax : ¬ (((p.length + kn : Nat) : Int) > IntKind.i64.max) := by
    have : IntKind.i64.max = 9223372036854775807 := by decide
    omega
  have hwr : IntKind.i64.wrap (kn : Int) = kn := w64_id (by omega) (by omega)
  let q : Question := .appendCap (p.length + kn) c' E
  let cap' := q.cut (σ.w.tape σ.w.drawn q)
  have hcap' : p.length + kn ≤ cap' := by
    show _ ≤ Question.cut (.appendCap (p.length + kn) c' E) _
    simp only [Question.cut]; omega
  let Z := Builtin.zeroCells z.cells (cap' - (p.length + kn))
  let W := Builtin.zeroCells z.cells kn
  have hZ : Z.size = (cap' - (p.length + kn)) * z.cells.size := by show (Builtin.zeroCells _ _).size = _; simp [Builtin.zeroCells]
  have hW : W.size = kn * z.cells.size := by show (Builtin.zeroCells _ _).size = _; simp [Builtin.zeroCells]
  have hzs : z.cells.size = Rp.sz α := by rw [hzc]; simpa using hzl
  let Rl : List Value := K ++ W.toList ++ Z.toList
  let w1 : World := { σ.w with drawn := σ.w.drawn + 1 }
  have hR : (K.toArray ++ W ++ Z) = Rl.toArray := by
    apply Array.ext'
    simp [Rl]
  have hf1 := run_firstCells (P := P) (σ := σ) (v := Sl ad' p c') hK1 hK3 w1 rfl
  have hroom : (askRoom (cap' * bt)).run P w1 = .ok () w1 := by
    unfold askRoom; split <;> rfl
  have hch : (choose (.appendCap (p.length + kn) c' E)).run P σ.w = .ok cap' w1 := by
    simp [choose, Sem.run, Question.forced, cap', q, w1]
  have hti : (typeInfo E).run P = fun w => .ok i0 w := by
    funext w; simp [typeInfo, hi1]
  obtain ⟨_, g1, g2, _, g3⟩ := gslice_some hg
  have hpos : 0 < kn := by omega
  have hnz : ¬ kn * Rp.sz α = 0 := by
    have := Rp.pos (α := α)
    have : 0 < kn * Rp.sz α := Nat.mul_pos hpos this
    omega
  have hrun : (Builtin.append_ #[T, T'] ty #[Sl ad' p c', I (kn : Int)]).run P σ.w = .ok (Sl (some ⟨σ.size, 0, none⟩) (p ++ List.replicate kn z0) cap') (σ.new (.cells Rl.toArray E (0, 0)) 1).w := by
    simp only [Builtin.append_, List.getElem?_toArray, List.getElem?_cons_zero, List.getElem?_cons_succ, underlying, hT, hT', Sem.run_bind, run_program, Result.andThen_ok, Sem.run_pure, run_typeInfo hTI, asInt, asIntOf, hwr, hti, hi4,
      hcap, if_true, Bool.not_true, Bool.false_eq_true, if_false, show ¬ ((kn : Int) < 0) by omega, hsm, Int.toNat_natCast, hmax, false_and, hbig, hch, hroom, hf1, hnz, run_zero hTI, Sl, List.length_append, List.length_replicate]
    rw [show (K.toArray ++ Builtin.zeroCells z.cells kn ++ Builtin.zeroCells z.cells (cap' - (p.length + kn))) = Rl.toArray from hR]
    rfl
  have hnw := σ.new_new (.cells Rl.toArray E (0, 0)) 1
  have hE := (σ.new_mod (.cells Rl.toArray E (0, 0)) 1).ext
  have hOw : Ow (σ.new (.cells Rl.toArray E (0, 0)) 1) σ.size el (Sl (some ⟨σ.size, 0, none⟩) (p ++ List.replicate kn z0) cap') (p ++ List.replicate kn z0) := by
    refine .inr ⟨σ.size, 0, cap', Rl.toArray, E, rfl, Nat.le_refl _, hnw, by simp; omega, ?_, σ.new_vis _ 1, fun i hi => ?_⟩
    · simp only [Rl, List.size_toArray, List.length_append, hK1, Array.length_toList, hZ, hW, hzs, Nat.zero_add]
      rw [← Nat.add_mul, ← Nat.add_mul]
      exact Nat.mul_le_mul_right _ (by omega)
    · by_cases hix : i < p.length
      · rw [List.getElem_append_left hix]
        obtain ⟨cs, hc1, hc2⟩ := hK2 i hix
        refine At.ofCells hnw (Rp.ext hE hc1) (fun j hj => ?_)
        have e2 := hc2 j hj
        have hlt := List.some_lt e2
        simp only [Rl, Nat.zero_add, List.getElem?_toArray, List.append_assoc]
        rw [List.getElem?_append_left hlt, e2]
      · rw [List.getElem_append_right (by omega), List.getElem_replicate]
        simp only [List.length_append, List.length_replicate] at hi
        refine At.ofCells hnw (Rp.ext hE hz) (fun j hj => ?_)
        have e3 : i * Rp.sz α + j = K.length + ((i - p.length) * Rp.sz α + j) := by
          have : i * Rp.sz α = p.length * Rp.sz α + (i - p.length) * Rp.sz α := by rw [← Nat.add_mul]; congr 1; omega
          omega
        have hlt : (i - p.length) * Rp.sz α + j < W.toList.length := by
          have hWl : W.toList.length = kn * Rp.sz α := by rw [Array.length_toList, hW, hzs]
          rw [hWl]
          have : (i - p.length + 1) * Rp.sz α ≤ kn * Rp.sz α := Nat.mul_le_mul_right _ (by omega)
          rw [Nat.add_mul] at this; omega
        simp only [Rl, Nat.zero_add, List.getElem?_toArray, List.append_assoc]
        rw [e3, List.getElem?_append_right (by omega), Nat.add_sub_cancel_left, List.getElem?_append_left hlt, Array.getElem?_toList]
        have := zeros_get (zc := z.cells) (m := kn) (i := i - p.length) (j := j) (by omega) (by rw [hzs]; omega)
        rw [hzs] at this
        show (Builtin.zeroCells z.cells kn)[_]? = _
        rw [Builtin.zeroCells, hzs, this, hzc]
        simp
  refine ⟨_, σ.new (.cells Rl.toArray E (0, 0)) 1, ?_, σ.size, cap', rfl, new_own H hlo (σ.new_mod _ 1) hOw, (σ.new_mod _ 1).md0⟩
  simp only [RunW, execOp, resolve, List.map_toArray, List.map_cons, List.map_nil, hx, hy, Sem.run_bind, Sem.run_pure, Result.andThen_ok, invoke, builtin, hrun]
theorem app_new {n pl : Nat} {h X : Int} (hp : (pl : Int) = h) (hn : h ≤ (n : Int)) (hb : decide ((n : Int) < w64 X) = true) : (n : Int) < pl + w64 (w64 X - h) := by
  have h1 := w64_range X
  have h2 : (n : Int) < w64 X := of_decide_eq_true hb
  rw [w64_id (n := w64 X - h) (by omega) (by omega)]; omega

theorem rv_slice3 (hT : P.underlying T = some (.slice E)) (hi : TI P E z s bt) {n3 : Nat} {o3 : Unit} (hg : gthree l h m n3 = some o3) (hc : n3 ≤ c) {q1 q2 q3 : Operand} (hx : ev n ρ x = .slice ad n3 c) (h1 : ev n ρ q1 = I l) (h2 : ev n ρ q2 = I h) (h3 : ev n ρ q3 = I m) :
    RunV P H n ρ ⟨dst, .slice T x (some q1) (some q2) (some q3), ty, pos, af, gd⟩ (.slice (if m.toNat = l.toNat then ad else ad.map (·.add (l.toNat * s))) (h.toNat - l.toNat) (m.toNat - l.toNat)) := fun w _ => by
  obtain ⟨g0, g1, g2, g3⟩ := gthree_some hg
  have g4 : m ≤ (c : Int) := by omega
  have e1 : (h.toNat : Int) = h := Int.toNat_of_nonneg (by omega)
  have e2 : (m.toNat : Int) = m := Int.toNat_of_nonneg (by omega)
  simp [execOp, hx, h1, h2, h3, Instr.sliceAt, Instr.slice, underlying, hT, Instr.sliceBounds, Instr.sliceBound, asIntOf, g0, g1, g2, g4, show 0 ≤ h by omega, show 0 ≤ m by omega, e1, e2, run_typeInfo hi]
theorem rv_sliceX (hT : P.underlying T = some (.slice E)) (hi : TI P E z s bt) {m0 k0 : Nat} (h1 : m0 ≤ k0) (h2 : k0 ≤ c) {q1 q2 : Operand} (hx : ev n ρ x = .slice ad m0 c) (hp : ev n ρ q1 = I m0) (hq : ev n ρ q2 = I k0) :
    RunV P H n ρ ⟨dst, .slice T x (some q1) (some q2) none, ty, pos, af, gd⟩ (.slice (if c = m0 then ad else ad.map (·.add (m0 * s))) (k0 - m0) (c - m0)) := fun w _ => by
  simp [execOp, hx, hp, hq, Instr.sliceAt, Instr.slice, underlying, hT, Instr.sliceBounds, Instr.sliceBound, asIntOf, h1, h2, run_typeInfo hi]
theorem ex_clearX {i k0 : Nat} (H : Hp S0 σ0 σ L) (hpk : pick L i = some (Ch.own lo el (Sl ad xs c) xs, R)) (hT : P.underlying T = some (.slice E)) (hi : TI P E z s bt) (hs : s = Rp.sz α) (hzs : z.cells.size = s) (hzp : ∀ t ∈ z.cells.toList, plain t = true) (h1 : xs.length ≤ k0) (h2 : k0 ≤ c)
    (hx : ev n ρ x = .slice (if c = xs.length then ad else ad.map (·.add (xs.length * s))) (k0 - xs.length) (c - xs.length)) :
    Ex P σ n ρ ⟨dst, .call ⟨.builtin .clear, #[x], #[T]⟩, ty, pos, af, gd⟩ fun v' σ' => v' = .tuple #[] ∧ Hp S0 σ0 σ' (Ch.own lo el (Sl ad xs c) xs :: R) ∧ Md (fun b => blk (Sl ad xs c) = some b) σ σ' := by
  subst hs
  have hO : Ow σ lo el (Sl ad xs c) xs := (H.front hpk).head
  by_cases hz : k0 = xs.length
  · subst hz
    refine ⟨_, σ, ?_, rfl, H.front hpk, Md.refl _ _⟩
    simp only [RunW, execOp, resolve, List.map_toArray, List.map_cons, List.map_nil, hx, Sem.run_bind, Sem.run_pure, Result.andThen_ok, invoke, builtin, Builtin.clear_, List.getElem?_toArray, List.getElem?_cons_zero, underlying, hT, run_program, Nat.sub_self]
    generalize (if c = xs.length then ad else ad.map (·.add (xs.length * Rp.sz α))) = a
    cases a <;> rfl
  · rcases hO with ⟨hn, hxs⟩ | ⟨b, o, c0, C, T0, hv0, g2, g3, g4, g5, g6, g7⟩
    · simp only [Sl, Value.slice.injEq] at hn; omega
    · cases hv0
      let K := (Builtin.zeroCells z.cells (k0 - xs.length)).toList
      have hK : K.length = (k0 - xs.length) * Rp.sz α := by
        show (Builtin.zeroCells z.cells (k0 - xs.length)).toList.length = _
        rw [Array.length_toList]; simp [Builtin.zeroCells, hzs]
      have hKp : ∀ t ∈ K, plain t = true := by
        intro t ht
        simp only [K, Builtin.zeroCells, Array.toList_map, Array.toList_range, List.mem_map, List.mem_range] at ht
        obtain ⟨j, hj, rfl⟩ := ht
        have : 0 < z.cells.size := by rw [hzs]; exact Rp.pos
        rw [getElem!_pos z.cells _ (Nat.mod_lt _ this)]
        exact hzp _ (by simp)
      have hend : o + xs.length * Rp.sz α + K.length ≤ C.size := by
        have : k0 * Rp.sz α ≤ c * Rp.sz α := Nat.mul_le_mul_right _ h2
        rw [hK]
        have e : xs.length * Rp.sz α + (k0 - xs.length) * Rp.sz α = k0 * Rp.sz α := by rw [← Nat.add_mul]; congr 1; omega
        omega
      have hst := run_storeCells (P := P) b (o + xs.length * Rp.sz α) T0 K 0 σ.w C g3 (by simpa using hend) hKp
      simp only [Nat.add_zero] at hst
      have m : Mod (blk (Sl (some ⟨b, o, none⟩) xs c)) σ (σ.put b (.cells (wr C (o + xs.length * Rp.sz α) K) T0 (0, 0))) := St.put_mod g6
      refine ⟨_, σ.put b (.cells (wr C (o + xs.length * Rp.sz α) K) T0 (0, 0)), ?_, rfl, frame_own H hpk m (.inr ⟨b, o, c, _, T0, rfl, g2, World.put_at _ (lt_of_block g3), g4, by rw [wr_size]; exact g5, g6, fun i hi => ?_⟩) (.inl rfl), m.md⟩
      · rw [if_neg (by omega)] at hx
        obtain ⟨kk, hkk⟩ : ∃ kk, k0 - xs.length = kk + 1 := ⟨k0 - xs.length - 1, by omega⟩
        simp only [Option.map_some, add_plain, hkk] at hx
        simp only [RunW, execOp, resolve, List.map_toArray, List.map_cons, List.map_nil, hx, Sem.run_bind, Sem.run_pure, Result.andThen_ok, invoke, builtin, Builtin.clear_, List.getElem?_toArray, List.getElem?_cons_zero, underlying, hT, run_program, run_zero hi]
        rw [← hkk]
        rw [show (storeCells ⟨b, o + xs.length * Rp.sz α, none⟩ (Builtin.zeroCells z.cells (k0 - xs.length)).toList).run P σ.w = _ from hst]
        rfl
      · have : (i + 1) * Rp.sz α ≤ xs.length * Rp.sz α := Nat.mul_le_mul_right _ hi
        rw [Nat.add_mul] at this
        exact (g7 i hi).put g3 g6 (fun j hj => wr_lt _ _ _ _ (by omega))
omit [Rp α] in
theorem del_room {q0 : List α} {i0 j0 : Int} {ap : Option Addr} {cp c2 : Nat} (hp : gslice xs 0 i0 = some p) (hq : gslice xs j0 (xs.length : Int) = some q0) (hij : i0 ≤ j0) (hr : gapp p q0 = some r) (hsp : Slc ad xs.length c s 0 i0 ap p.length cp) (hfit : p.length + q0.length ≤ cp → c2 = cp) : r.length ≤ xs.length ∧ xs.length ≤ c2 := by
  obtain ⟨a0, a1, a2, _, a4⟩ := gslice_some hp
  obtain ⟨b0, b1, b2, _, b4⟩ := gslice_some hq
  obtain ⟨_, rfl⟩ := gapp_some hr
  have h3 := hsp.h3
  have hec : cp = c := by rw [hsp.ec]; simp
  have : p.length + q0.length ≤ xs.length := by omega
  refine ⟨by rw [List.length_append]; exact this, ?_⟩
  rw [hfit (by omega)]; omega
end
end Go.Vs

namespace Go.Vs
open Go

section
variable {P : Program} {H : Array Obj} {n : Nat} {ρ : Nat → Value} {d : Option Nat} {ty T : TypeId} {pos : String} {af : Array Edge} {gd : Option (Nat × Bool)}
end
end Go.Vs

namespace Go.Vs
open Go Go.ChangeShapes Go.WideShapes Go.ChangeAt Go.RowKit

theorem Md.below {S : BS} {σ σ' : St} (m : Md S σ σ') (hS : ∀ b, ¬ S b) : Below σ.w.heap.size σ.w σ'.w :=
  ⟨m.os, m.tape, m.output, m.size, fun k hk => m.block k hk (hS k)⟩
theorem cov_nil : ∀ b, ¬ cov [] b := fun _ h => h
theorem cov_ro {α : Type} [Rp α] {el : Nat} {v : Value} {xs : List α} {L : List Ch} (h : ∀ b, ¬ cov L b) : ∀ b, ¬ cov (Ch.ro el v xs :: L) b := fun b hb => hb.elim (fun h => h) (h b)
theorem all_ro {α : Type} [Rp α] {el : Nat} {v : Value} {xs : List α} {L : List Ch} {σ : St} (h : RS el σ v xs) (k : allAs σ L) : allAs σ (Ch.ro el v xs :: L) := ⟨h, k⟩
theorem apart_ro {α : Type} [Rp α] {el : Nat} {v : Value} {xs : List α} {L : List Ch} (k : apart L) : apart (Ch.ro el v xs :: L) := ⟨fun _ h => h.elim, k⟩

end Go.Vs

namespace Go.Vs
open Go Go.ChangeShapes Go.WideShapes Go.ChangeAt Go.RowKit

def allIn (W : World) (N : Nat) : St := ⟨W, fun c => if c < W.heap.size then N else 0, fun c hc => if_neg (by omega), True⟩

end Go.Vs

namespace Go.Vs
open Go Go.ChangeShapes Go.WideShapes Go.ChangeAt Go.RowKit

section
variable {H : Type} {enc : TypeId × Value → H} {P : Program} {W : World}

def Opens {α : Type} [Rp α] (enc : TypeId × Value → H) (P : Program) (W : World) (t : TypeId) (ok : α → Prop) : Prop :=
  ∀ {fuel : Nat} {cs : List Value} {x : DataW H × List MemPlace}, DataW.trod enc P W 0 (fun _ => true) true fuel t cs = some x → (∀ pl ∈ x.2, pl.block < W.heap.size) →
    ∃ (a : α) (N : Nat), ok a ∧ ∀ M, N ≤ M → Rp.rp 0 (allIn W M) cs a

theorem opens_slice {α : Type} [Rp α] {t e : TypeId} {ok : α → Prop} (ht : P.underlying t = some (.slice e)) (hc : P.cellsOf e = Rp.sz α) (he : Opens (α := α) enc P W e ok) :
    Opens (α := List α) enc P W t (fun xs => xs.length ≤ 9223372036854775807 ∧ ∀ x ∈ xs, ok x) := by
  intro fuel cs x h hlt
  rcases DataW.trod_slice ht h with ⟨rfl, rfl⟩ | ⟨a, len, cap, elems, rest, n, _, rfl, rfl, _, hl, hm, hlen, hel, _, _⟩
  · exact ⟨[], 0, ⟨by simp, by simp⟩, fun M _ => ⟨_, rfl, .inl ⟨⟨none, 0, rfl⟩, rfl⟩⟩⟩
  by_cases hl0 : len = 0
  · subst hl0
    exact ⟨[], 0, ⟨by simp, by simp⟩, fun M _ => ⟨_, rfl, .inl ⟨⟨some a, cap, rfl⟩, rfl⟩⟩⟩
  -- each element
  have each : ∀ i, i < len → ∃ (v : α) (N : Nat) (ci : List Value), ok v ∧ ci.length = Rp.sz α ∧ (∀ j, (hj : j < ci.length) → W.cell? ((a.add (i * Rp.sz α)).add j) = some ci[j]) ∧ ∀ M, N ≤ M → Rp.rp 0 (allIn W M) ci v := by
    intro i hi
    have h1 := hel i hi
    have hi' : i < elems.length := by omega
    rw [List.getElem?_eq_getElem hi'] at h1
    obtain ⟨ci, hci, htr⟩ := Option.bind_eq_some_iff.1 h1
    rw [hc] at hci
    obtain ⟨_, hcl, hcc⟩ := World.cells?_some hci
    have hpl : ∀ pl ∈ elems[i].2, pl.block < W.heap.size := by
      intro pl hp
      refine hlt pl ?_
      simp only [List.mem_append, List.mem_flatMap]
      exact .inr ⟨elems[i], .inl (List.getElem_mem _), hp⟩
    obtain ⟨v, N, hv, hr⟩ := he htr hpl
    refine ⟨v, N, ci, hv, hcl, fun j hj => ?_, hr⟩
    have := hcc j (by omega)
    rw [this, List.getElem?_eq_getElem hj]
  have hpos : 0 < Rp.sz α := Rp.pos
  obtain ⟨b, off, spot⟩ := a
  have hspot : spot = none := by
    obtain ⟨_, _, ci, _, hcl, hcc, _⟩ := each 0 (by omega)
    have := World.cell?_spot (hcc 0 (by omega))
    simpa [Addr.add] using this
  subst hspot
  have hbW : b < W.heap.size := by
    refine hlt (.cell b off) ?_
    rw [hc]
    refine List.mem_append_left _ (MemPlace.mem_row.2 ⟨0, ?_, by simp⟩)
    exact Nat.mul_pos (by omega) hpos
  -- all of them
  have all : ∀ m, m ≤ len → ∃ (xs : List α) (N : Nat), xs.length = m ∧ (∀ x ∈ xs, ok x) ∧ ∀ M, N ≤ M → ∀ i, (hi : i < xs.length) → At 0 (allIn W M) b (off + i * Rp.sz α) xs[i] := by
    intro m
    induction m with
    | zero => exact fun _ => ⟨[], 0, rfl, by simp, fun M _ i hi => absurd hi (by simp)⟩
    | succ m ih =>
      intro hm'
      obtain ⟨xs, N, hxl, hok, hat⟩ := ih (by omega)
      obtain ⟨v, N', ci, hv, hcl, hcc, hr⟩ := each m (by omega)
      refine ⟨xs ++ [v], max N N', by simp; omega, ?_, fun M hM i hi => ?_⟩
      · intro x hx
        rcases List.mem_append.1 hx with h | h
        · exact hok x h
        · simp only [List.mem_singleton] at h; subst h; exact hv
      · by_cases hi' : i < xs.length
        · rw [List.getElem_append_left hi']
          exact hat M (by omega) i hi'
        · have hi2 : i = m := by simp at hi; omega
          subst hi2
          have hx : (xs ++ [v])[i] = v := by
            rw [List.getElem_append_right (by omega)]; simp [hxl]
          rw [hx]
          refine ⟨ci, hr M (by omega), fun j hj => ?_⟩
          have := hcc j hj
          rw [add_plain, add_plain] at this
          exact this
  obtain ⟨xs, N, hxl, hok, hat⟩ := all len (Nat.le_refl _)
  have hmx : cap ≤ 9223372036854775807 := by
    have : maxLen ≤ 9223372036854775807 := by decide
    omega
  refine ⟨xs, max N (off + len * Rp.sz α), ⟨by omega, hok⟩, fun M hM => ⟨_, rfl, .inr ⟨b, off, cap, by rw [hxl], Nat.zero_le _, by omega, ?_, hat M (by omega)⟩⟩⟩
  show off + xs.length * Rp.sz α ≤ (if b < W.heap.size then M else 0)
  rw [if_pos hbW, hxl]; omega

end

theorem arg_list {H : Type} {enc : TypeId × Value → H} {P : Program} {W : World} {base : Nat} {α : Type} [Rp α] {t e : TypeId} {v : Value} {d : DataW H} {p : List MemPlace} {ok : α → Prop} (ht : P.underlying t = some (.slice e)) (hc : P.cellsOf e = Rp.sz α) (he : Opens (α := α) enc P W e ok)
    (hval : Value.okWide P W .any base t v) (hd : DataW.Trod enc P W 0 (fun _ => true) true t v d p) (hlt : ∀ x ∈ p, x.block < W.heap.size) :
    ∃ (a : Option Addr) (xs : List α) (cap N : Nat), (xs.length ≤ 9223372036854775807 ∧ ∀ x ∈ xs, ok x) ∧ v = Sl a xs cap ∧ ∀ M, N ≤ M → RS 0 (allIn W M) (Sl a xs cap) xs := by
  obtain ⟨a0, len, cap, rfl⟩ := okWide_slice ht hval
  obtain ⟨fuel, hf⟩ := hd
  obtain ⟨xs, N, hok, hr⟩ := opens_slice ht hc he hf hlt
  have hv : (Value.cells (.slice a0 len cap)).toList = [.slice a0 len cap] := by simp [Value.cells]
  have key : ∀ M, N ≤ M → RS 0 (allIn W M) (.slice a0 len cap) xs := by
    intro M hM
    obtain ⟨v, hv', hR⟩ := hr M hM
    rw [hv] at hv'
    simp only [List.cons.injEq, and_true] at hv'
    rw [hv']; exact hR
  have hlen : len = xs.length := by
    rcases key N (Nat.le_refl _) with ⟨⟨ad, c, h1⟩, h2⟩ | ⟨b, o, c, h1, _⟩
    · cases h1; rw [h2]; rfl
    · cases h1; rfl
  subst hlen
  exact ⟨a0, xs, cap, N, hok, rfl, key⟩
end Go.Vs

namespace Go.Vs
open Go Go.ChangeShapes Go.WideShapes Go.ChangeAt Go.RowKit
section
variable {H : Type} {enc : TypeId × Value → H} {P : Program} {w : World} {base : Nat} {spare : Nat → Bool} {held : Bool}
end
end Go.Vs

namespace Go.Vs
open Go Go.ChangeShapes Go.WideShapes Go.ChangeAt Go.RowKit
end Go.Vs

namespace Go.Vs
open Go Go.ChangeShapes Go.WideShapes Go.ChangeAt Go.RowKit
section
variable {H : Type} {enc : TypeId × Value → H} {P : Program} {W : World}
end
end Go.Vs

namespace Go.Vs
open Go Go.ChangeShapes Go.WideShapes Go.ChangeAt Go.RowKit
end Go.Vs

namespace Go.Vs
open Go Go.ChangeShapes Go.WideShapes Go.ChangeAt Go.RowKit
end Go.Vs

namespace Go.Vs
open Go Go.ChangeShapes Go.WideShapes Go.ChangeAt Go.RowKit
end Go.Vs

namespace Go.Vs
open Go Go.ChangeShapes Go.WideShapes Go.ChangeAt Go.RowKit
theorem opens_str {H : Type} {enc : TypeId × Value → H} {P : Program} {W : World} {t : TypeId} (ht : P.underlying t = some .string) : Opens (α := ByteArray) enc P W t (fun s => s.size ≤ 9223372036854775807) := by
  intro fuel cs x h _
  obtain ⟨s, rfl, _, hw⟩ := DataW.trod_string ht h
  exact ⟨s, 0, by unfold maxLen at hw; omega, fun _ _ => rfl⟩
end Go.Vs

namespace Go.Vs
open Go

def ifs2 (k : Int) (a b : Value) : Value := bif k == 1 then a else bif k == 2 then b else .nilIface
theorem cf {c : Bool} {a b : Value} (h : c = false) : (bif c then a else b) = b := by rw [h]; rfl
section
variable {P : Program} {H : Array Obj} {n : Nat} {ρ : Nat → Value} {dst : Option Nat} {ty T T' T0 : TypeId} {pos : String} {af : Array Edge} {gd : Option (Nat × Bool)} {x y : Operand} {v : Value} {t : TypeId} {ms : Array (String × TypeId)} {D : TypeDesc}

theorem run_eqIN (hT : P.underlying T = some (.interface ms)) (w : World) : (Op.equal T (.iface t v) .nilIface).run P w = .ok false w := by
  show (Op.equalIn (9999 + 1) T _ _).run P w = _
  rw [Op.equalIn]
  simp only [underlying, Sem.run_bind, run_program, Result.andThen_ok, hT, Sem.run_pure]
theorem run_eqNN (hT : P.underlying T = some (.interface ms)) (w : World) : (Op.equal T .nilIface .nilIface).run P w = .ok true w := by
  show (Op.equalIn (9999 + 1) T _ _).run P w = _
  rw [Op.equalIn]
  simp only [underlying, Sem.run_bind, run_program, Result.andThen_ok, hT, Sem.run_pure]
theorem rv_neqIN (hT : P.underlying T = some (.interface ms)) (hx : ev n ρ x = .iface t v) (hy : ev n ρ y = .nilIface) : RunV P H n ρ ⟨dst, .binOp .neq T x y T', ty, pos, af, gd⟩ (B true) := fun w _ => by
  simp [execOp, hx, hy, eqGuard, binOp, run_eqIN hT]
theorem rv_neqNN (hT : P.underlying T = some (.interface ms)) (hx : ev n ρ x = .nilIface) (hy : y = .const .nilIface) : RunV P H n ρ ⟨dst, .binOp .neq T x y T', ty, pos, af, gd⟩ (B false) := fun w _ => by
  subst hy
  have h2 : ev n ρ (.const .nilIface) = .nilIface := rfl
  simp [execOp, hx, h2, eqGuard, binOp, run_eqNN hT]
end
end Go.Vs

namespace Go.Vs
open Go

def er (T : TypeId) (a : Nat → Addr) (e : Int) : Value := if e = 0 then .nilIface else .iface T (.pointer (some (a (e.toNat - 1))))
section
variable {S0 : BS} {σ0 σ : St} {L : List Ch} {T : TypeId} {a : Nat → Addr} {l : List Nat}
end
section
variable {P : Program} {H : Array Obj} {n : Nat} {ρ : Nat → Value} {dst : Option Nat} {ty T T' t : TypeId} {pos : String} {af : Array Edge} {gd : Option (Nat × Bool)} {x y : Operand} {v : Value} {ms : Array (String × TypeId)} {a : Nat → Addr} {e : Int} {i : Nat}
theorem rv_neqE (hT : P.underlying T = some (.interface ms)) (hx : ev n ρ x = er t a e) (hy : y = .const .nilIface) : RunV P H n ρ ⟨dst, .binOp .neq T x y T', ty, pos, af, gd⟩ (B (e != 0)) := by
  by_cases h : e = 0
  · subst h
    exact rv_neqNN hT hx hy
  · have h1 : (e != 0) = true := by simpa using h
    rw [h1]
    refine rv_neqIN (t := t) (v := .pointer (some (a (e.toNat - 1)))) hT ?_ (by subst hy; rfl)
    rw [hx, er, if_neg h]
end
end Go.Vs

namespace Go.Vs
open Go Go.ChangeShapes Go.WideShapes Go.ChangeAt Go.RowKit

end Go.Vs

namespace Go.Vs
open Go

structure Gp where
  n : Nat
  p : World → Prop
  hp : ∀ w w' : World, (∀ b, b < n → w'.heap[b]? = w.heap[b]?) → p w → p w'
def Ch.gw (G : Gp) : Ch where
  dup := true
  fp _ := False
  as σ := σ.loud ∧ G.p σ.w ∧ ∀ b, b < G.n → 0 < σ.vis b
  hdup _ _ := id
  hlt _ _ h := h.elim
  hst m _ h := ⟨m.loud ▸ h.1, G.hp _ _ (fun b hb => m.ext.block b (h.2.2 b hb)) h.2.1, fun b hb => Nat.lt_of_lt_of_le (h.2.2 b hb) (m.ext.vis b)⟩

end Go.Vs

namespace Go.Vs

structure Lc {α : Type} (cmp : α → α → Int) (xs : List α) : Prop where
  irrefl : ∀ x ∈ xs, ¬ cmp x x < 0
  trans : ∀ x ∈ xs, ∀ y ∈ xs, ∀ z ∈ xs, cmp x y < 0 → cmp y z < 0 → cmp x z < 0
  anti : ∀ x ∈ xs, ∀ y ∈ xs, ¬ cmp x y < 0 → ¬ cmp y x < 0 → x = y
def leC {α : Type} (cmp : α → α → Int) (x y : α) : Bool := !decide (cmp y x < 0)
def sortL {α : Type} (cmp : α → α → Int) (xs : List α) : List α := xs.mergeSort (leC cmp)
theorem sortL_len {α : Type} {cmp : α → α → Int} {xs : List α} : (sortL cmp xs).length = xs.length := List.length_mergeSort _
theorem Lc.asymm {α : Type} {cmp : α → α → Int} {xs : List α} (h : Lc cmp xs) {x y : α} (hx : x ∈ xs) (hy : y ∈ xs) (h1 : cmp x y < 0) : ¬ cmp y x < 0 :=
  fun h2 => h.irrefl x hx (h.trans x hx y hy x hx h1 h2)
theorem Lc.letrans {α : Type} {cmp : α → α → Int} {xs : List α} (h : Lc cmp xs) {x y z : α} (hx : x ∈ xs) (hy : y ∈ xs) (hz : z ∈ xs) (h1 : ¬ cmp y x < 0) (h2 : ¬ cmp z y < 0) : ¬ cmp z x < 0 := by
  intro h3
  by_cases a : cmp x y < 0
  · by_cases b : cmp y z < 0
    · exact h.asymm hx hz (h.trans x hx y hy z hz a b) h3
    · have := h.anti y hy z hz b h2; subst this; exact h1 h3
  · have := h.anti x hx y hy a h1; subst this; exact h2 h3
theorem lc_uniq {α : Type} {cmp : α → α → Int} : ∀ {l r : List α}, Lc cmp l → r.Perm l → r.Pairwise (fun x y => ¬ cmp y x < 0) → l.Pairwise (fun x y => ¬ cmp y x < 0) → r = l
  | [], r, _, hp, _, _ => List.Perm.eq_nil hp
  | x :: l, r, h, hp, hr, hl => by
    cases r with
    | nil => exact absurd hp.length_eq (by simp)
    | cons y r =>
      obtain ⟨hr1, hr2⟩ := List.pairwise_cons.1 hr
      obtain ⟨hl1, hl2⟩ := List.pairwise_cons.1 hl
      have hy : y ∈ x :: l := hp.mem_iff.1 (by simp)
      have hx : x ∈ y :: r := hp.mem_iff.2 (by simp)
      have e : y = x := by
        rcases List.mem_cons.1 hx with e | hx'
        · exact e.symm
        rcases List.mem_cons.1 hy with e | hy'
        · exact e
        exact h.anti y hy x (by simp) (hl1 y hy') (hr1 x hx')
      subst e
      have hp' := (List.perm_cons y).1 hp
      rw [lc_uniq (l := l) (r := r) ⟨fun a ha => h.irrefl a (by simp [ha]), fun a ha b hb c hc => h.trans a (by simp [ha]) b (by simp [hb]) c (by simp [hc]), fun a ha b hb => h.anti a (by simp [ha]) b (by simp [hb])⟩ hp' hr2 hl2]
theorem sortL_asc {α : Type} {cmp : α → α → Int} {xs : List α} (h : Lc cmp xs) : (sortL cmp xs).Pairwise (fun x y => ¬ cmp y x < 0) := by
  -- on the list's own elements the order is total and transitive
  let e : {x // x ∈ xs} → {x // x ∈ xs} → Bool := fun a b => leC cmp a.1 b.1
  have hs := List.pairwise_mergeSort (le := e) (fun a b c h1 h2 => by
    simp only [e, leC, Bool.not_eq_true', decide_eq_false_iff_not] at h1 h2 ⊢
    exact h.letrans a.2 b.2 c.2 h1 h2) (fun a b => by
    simp only [e, leC, Bool.or_eq_true, Bool.not_eq_true', decide_eq_false_iff_not]
    by_cases hb : cmp b.1 a.1 < 0
    · exact .inr (h.asymm b.2 a.2 hb)
    · exact .inl hb) xs.attach
  have hm : sortL cmp xs = (xs.attach.mergeSort e).map (·.1) := by
    unfold sortL
    have := List.map_mergeSort (f := fun a : {x // x ∈ xs} => a.1) (r := e) (s := leC cmp) (l := xs.attach) (fun a _ b _ => rfl)
    rw [this, List.attach_map_subtype_val]
  rw [hm, List.pairwise_map]
  refine hs.imp fun {a b} hab => ?_
  simpa [e, leC] using hab
theorem sortL_uniq {α : Type} {cmp : α → α → Int} {xs r : List α} (h : Lc cmp xs) (hp : r.Perm xs) (hr : r.Pairwise (fun x y => ¬ cmp y x < 0)) : r = sortL cmp xs := by
  have hps : (sortL cmp xs).Perm xs := List.mergeSort_perm _ _
  have hm : ∀ x, x ∈ sortL cmp xs → x ∈ xs := fun x hx => hps.mem_iff.1 hx
  exact lc_uniq ⟨fun a ha => h.irrefl a (hm a ha), fun a ha b hb c hc => h.trans a (hm a ha) b (hm b hb) c (hm c hc), fun a ha b hb => h.anti a (hm a ha) b (hm b hb)⟩ (hp.trans hps.symm) hr (sortL_asc h)
open Classical in
noncomputable def M.sortD {α : Type} (cmp : α → α → Option Int) (xs : List α) : Option (List α) :=
  if xs.length ≤ 1000000 ∧ (∀ x ∈ xs, ∀ y ∈ xs, ∃ r, cmp x y = some r) ∧ Lc (fun x y => (cmp x y).getD 0) xs then some (sortL (fun x y => (cmp x y).getD 0) xs) else none
theorem sortD_some {α : Type} {cmp : α → α → Option Int} {xs r : List α} (h : M.sortD cmp xs = some r) : xs.length ≤ 1000000 ∧ (∀ x ∈ xs, ∀ y ∈ xs, ∃ r, cmp x y = some r) ∧ Lc (fun x y => (cmp x y).getD 0) xs ∧ r = sortL (fun x y => (cmp x y).getD 0) xs := by
  unfold M.sortD at h
  split at h
  · rename_i hc
    exact ⟨hc.1, hc.2.1, hc.2.2, (Option.some.inj h).symm⟩
  · cases h
theorem sortD_ok {α : Type} {cmp : α → α → Option Int} {lt : α → α → Bool} {xs : List α} (hn : xs.length ≤ 1000000) (hc : ∀ x ∈ xs, ∀ y ∈ xs, ∃ r, cmp x y = some r ∧ decide (r < 0) = lt x y)
    (hi : ∀ x ∈ xs, lt x x = false) (ht : ∀ x ∈ xs, ∀ y ∈ xs, ∀ z ∈ xs, lt x y = true → lt y z = true → lt x z = true) (ha : ∀ x ∈ xs, ∀ y ∈ xs, x ≠ y → lt x y = true ∨ lt y x = true) :
    ∃ r, M.sortD cmp xs = some r ∧ r.Perm xs ∧ r.Pairwise (fun x y => lt y x = false) := by
  have hv : ∀ x ∈ xs, ∀ y ∈ xs, (cmp x y).getD 0 < 0 ↔ lt x y = true := by
    intro x hx y hy
    obtain ⟨r, h1, h2⟩ := hc x hx y hy
    rw [h1, ← h2]; simp
  have hL : Lc (fun x y => (cmp x y).getD 0) xs := by
    refine ⟨fun x hx h => ?_, fun x hx y hy z hz h1 h2 => ?_, fun x hx y hy h1 h2 => ?_⟩
    · rw [hv x hx x hx, hi x hx] at h; cases h
    · exact (hv x hx z hz).2 (ht x hx y hy z hz ((hv x hx y hy).1 h1) ((hv y hy z hz).1 h2))
    · refine Classical.byContradiction fun hne => ?_
      rcases ha x hx y hy hne with h | h
      · exact h1 ((hv x hx y hy).2 h)
      · exact h2 ((hv y hy x hx).2 h)
  have hp : (sortL (fun x y => (cmp x y).getD 0) xs).Perm xs := List.mergeSort_perm _ _
  have hsome : ∀ x ∈ xs, ∀ y ∈ xs, ∃ r, cmp x y = some r := fun x hx y hy => by
    obtain ⟨r, h1, _⟩ := hc x hx y hy; exact ⟨r, h1⟩
  refine ⟨_, by unfold M.sortD; rw [if_pos ⟨hn, hsome, hL⟩], hp, ?_⟩
  · have hs := sortL_asc hL
    rw [List.pairwise_iff_getElem] at hs ⊢
    intro i j h1 h2 hij
    have hx := hp.mem_iff.1 (List.getElem_mem h1)
    have hy := hp.mem_iff.1 (List.getElem_mem h2)
    have := hs i j h1 h2 hij
    rw [hv _ hy _ hx] at this
    simpa using this
end Go.Vs

namespace Go.Vs
open Go

def optB (x : Operand) (p : Nat → Bool) : Bool := match x with
  | .tmp t => p t
  | _ => true
def notSel (o : Op) : Bool := match o with
  | .select _ _ => false
  | _ => true
def sqB (ops : Array Oper) (n : Nat) : Bool := (List.range n).all fun i => match ops[i]? with
  | some o => notSel o.op && (o.op.operands.toList.all fun x => optB x fun t => offB ops n t || (List.range i).any fun j => waits o j && (dstOf ops j == some t)) && (match o.guard with | none => true | some (j, _) => waits o j && Nat.blt j i)
  | none => false
def SeqW (P : Program) (ops : Array Oper) (H : Array Obj) (N : Nat) (K : (Nat → Value) → Prop) : List Oper → (Nat → Value) → Prop
  | [], ρ => K ρ
  | o :: r, ρ => ∃ v d, o.dst = some d ∧ ((Region.wanted o (yv ops N ρ) = true ∧ RunV P H N ρ o v) ∨ (Region.wanted o (yv ops N ρ) = false ∧ v = undef)) ∧ SeqW P ops H N K r (upd ρ d v)
def env : List Oper → List Value → (Nat → Value) → (Nat → Value)
  | o :: r, v :: vs, ρ => env r vs (upd ρ (o.dst.getD 0) v)
  | _, _, ρ => ρ
section
variable {P : Program} {ops : Array Oper} {H : Array Obj} {N : Nat} {K : (Nat → Value) → Prop} {Q : Exit → Act → World → Prop}
def StepOK (P : Program) (ops : Array Oper) (H : Array Obj) (N : Nat) (o : Oper) (ρ : Nat → Value) (v : Value) : Prop :=
  ∃ d, o.dst = some d ∧ ((Region.wanted o (yv ops N ρ) = true ∧ RunV P H N ρ o v) ∨ (Region.wanted o (yv ops N ρ) = false ∧ v = undef))
theorem seq_spec : ∀ (l : List Oper) (ρ : Nat → Value), SeqW P ops H N K l ρ → ∃ vs : List Value, vs.length = l.length ∧ K (env l vs ρ) ∧ ∀ i o, l[i]? = some o → StepOK P ops H N o (env (l.take i) (vs.take i) ρ) (vs.getD i undef)
  | [], ρ, h => ⟨[], rfl, h, fun i o ho => by simp at ho⟩
  | o :: r, ρ, ⟨v, d, hd, hv, h⟩ => by
    obtain ⟨vs, h1, h2, h3⟩ := seq_spec r (upd ρ d v) h
    refine ⟨v :: vs, by simp [h1], ?_, fun i o' ho => ?_⟩
    · simp only [env, hd, Option.getD_some]; exact h2
    · cases i with
      | zero =>
        simp only [List.getElem?_cons_zero, Option.some.injEq] at ho
        subst ho
        exact ⟨d, hd, by simpa [env] using hv⟩
      | succ i =>
        have := h3 i o' (by simpa using ho)
        simpa [env, hd] using this
theorem env_off {t : Nat} : ∀ (l : List Oper) (vs : List Value) (ρ : Nat → Value), (∀ o ∈ l, ∀ d, o.dst = some d → d ≠ t) → (∀ o ∈ l, o.dst.isSome = true) → env l vs ρ t = ρ t
  | [], vs, ρ, _, _ => by cases vs <;> rfl
  | o :: r, [], ρ, _, _ => rfl
  | o :: r, v :: vs, ρ, h, hs => by
    rw [env, env_off r vs _ (fun o' ho' => h o' (by simp [ho'])) (fun o' ho' => hs o' (by simp [ho']))]
    cases hd : o.dst with
    | none => have := hs o (by simp); rw [hd] at this; cases this
    | some d =>
      have : t ≠ d := fun e => h o (by simp) d hd e.symm
      show (bif Nat.beq t d then v else ρ t) = ρ t
      rw [beq_f this]; rfl
theorem env_at {d j : Nat} : ∀ (l : List Oper) (vs : List Value) (ρ : Nat → Value), vs.length = l.length → (∀ o ∈ l, o.dst.isSome = true) → (∃ o, l[j]? = some o ∧ o.dst = some d) → (∀ k o, j < k → l[k]? = some o → o.dst ≠ some d) → env l vs ρ d = vs.getD j undef
  | [], vs, ρ, _, _, ⟨o, ho, _⟩, _ => by simp at ho
  | o :: r, [], ρ, hl, _, _, _ => by simp at hl
  | o :: r, v :: vs, ρ, hl, hs, ⟨o', ho', hd'⟩, hk => by
    rw [env]
    cases j with
    | zero =>
      simp only [List.getElem?_cons_zero, Option.some.injEq] at ho'
      subst ho'
      rw [hd', Option.getD_some, env_off r vs _ (fun o2 ho2 d2 hd2 e => by
        obtain ⟨k, hk2, he⟩ := List.mem_iff_getElem.1 ho2
        subst e
        exact hk (k + 1) o2 (by omega) (by simp [hk2, he]) hd2) (fun o2 ho2 => hs o2 (by simp [ho2]))]
      show (bif Nat.beq d d then v else ρ d) = _
      rw [beq_t]; rfl
    | succ j =>
      rw [env_at r vs _ (by simpa using hl) (fun o2 ho2 => hs o2 (by simp [ho2])) ⟨o', by simpa using ho', hd'⟩ (fun k o2 hjk ho2 => hk (k + 1) o2 (by omega) (by simpa using ho2))]
      simp
theorem ev_of_look {ρ ρ' : Nat → Value} {x : Operand} (h : ∀ t, x = .tmp t → look N ρ t = look N ρ' t) : ev N ρ x = ev N ρ' x := by
  cases x with
  | tmp t => exact h t rfl
  | const v => rfl
  | global g => rfl
  | func f => rfl
theorem runV_congr {ρ ρ' : Nat → Value} {o : Oper} {v : Value} (hs : notSel o.op = true) (h : ∀ x ∈ o.op.operands, ev N ρ x = ev N ρ' x) (hr : RunV P H N ρ' o v) : RunV P H N ρ o v := by
  intro w hw
  rw [execOp_congr o (fun cs b e => by rw [e] at hs; cases hs) h]
  exact hr w hw
theorem wanted_congr {ρ ρ' : Nat → Value} {o : Oper} (h : ∀ j b, o.guard = some (j, b) → yv ops N ρ j = yv ops N ρ' j) : Region.wanted o (yv ops N ρ) = Region.wanted o (yv ops N ρ') := by
  unfold Region.wanted
  cases hg : o.guard with
  | none => rfl
  | some p => obtain ⟨j, b⟩ := p; simp only [h j b hg]

theorem rgP {id : Nat} {l : List Oper} {σ : St} {ρ0 : Nat → Value} (n : Nat) (hm : P.follows .mixedOrders = true) (hB : rgB N l.toArray n [] [[]] (List.replicate n [(0, 0)]) 0 = true) (hS : sqB l.toArray n = true)
    (hseq : SeqW P l.toArray σ.w.heap N (fun ρ => ∀ σ' : St, Md (cov []) σ σ' → wpList P l.toArray Q (l.drop n) (fr N ρ) σ'.w) (l.take n) ρ0) :
    (Code.region id l.toArray true).wp P Q (fr N ρ0) σ.w := by
  obtain ⟨vs, hvl, hK, hst⟩ := seq_spec _ _ hseq
  have hB' := hB
  simp only [rgB, Bool.and_eq_true] at hB'
  obtain ⟨⟨⟨⟨⟨⟨⟨hn, hD⟩, _⟩, _⟩, _⟩, _⟩, _⟩, _⟩ := hB'
  have hnl : n ≤ l.length := by simpa using Nat.le_of_ble_eq_true hn
  rw [List.length_take, Nat.min_eq_left hnl] at hvl
  have hget : ∀ i, i < n → (l.take n)[i]? = l.toArray[i]? := fun i hi => by simp [List.getElem?_take, hi]
  have hex : ∀ i, i < n → ∃ o, l.toArray[i]? = some o := fun i hi => by
    have : i < l.length := by omega
    exact ⟨l[i], by simp [this]⟩
  -- what each operation writes
  have hdst : ∀ i, i < n → ∃ d, dstOf l.toArray i = some d ∧ d < N ∧ ∀ j, j < n → j ≠ i → dstOf l.toArray j ≠ some d := by
    intro i hi
    obtain ⟨o, ho⟩ := hex i hi
    obtain ⟨d, hd, _⟩ := hst i o (by rw [hget i hi]; exact ho)
    have hdi : dstOf l.toArray i = some d := by unfold dstOf; rw [ho]; exact hd
    have := List.all_eq_true.1 hD i (List.mem_range.2 hi)
    simp only [Bool.and_eq_true, hdi] at this
    obtain ⟨⟨h1, _⟩, h3⟩ := this
    refine ⟨d, hdi, ?_, fun j hj hne e => ?_⟩
    · exact Classical.byContradiction fun hc => by rw [blt_f hc] at h1; cases h1
    · have := List.all_eq_true.1 h3 j (List.mem_range.2 hj)
      rw [beq_f (Ne.symm hne)] at this
      simp [e] at this
  have hsome : ∀ i, i ≤ n → ∀ o ∈ l.take i, o.dst.isSome = true := by
    intro i hi o ho
    obtain ⟨k, hk, he⟩ := List.mem_iff_getElem.1 ho
    rw [List.length_take] at hk
    obtain ⟨d, hd, _⟩ := hdst k (by omega)
    rw [List.getElem_take] at he
    have hkl : k < l.length := by omega
    unfold dstOf at hd
    rw [show l.toArray[k]? = some o by simp [hkl, he]] at hd
    simp only [Option.bind_some] at hd
    rw [hd]; rfl
  have htt : ∀ i, i ≤ n → (l.take n).take i = l.take i := fun i hi => by rw [List.take_take, Nat.min_eq_left hi]
  have henvoff : ∀ i t, i ≤ n → (∀ k, k < n → dstOf l.toArray k ≠ some t) → env (l.take i) (vs.take i) ρ0 t = ρ0 t := by
    intro i t hi ht
    refine env_off _ _ _ (fun o ho d hd e => ?_) (hsome i hi)
    obtain ⟨k, hk, he⟩ := List.mem_iff_getElem.1 ho
    rw [List.length_take] at hk
    rw [List.getElem_take] at he
    have hkl : k < l.length := by omega
    refine ht k (by omega) ?_
    unfold dstOf
    rw [show l.toArray[k]? = some o by simp [hkl, he]]
    subst e; exact hd
  have henvat : ∀ i j d, i ≤ n → j < i → dstOf l.toArray j = some d → env (l.take i) (vs.take i) ρ0 d = vs.getD j undef := by
    intro i j d hi hj hd
    have hjl : j < l.length := by omega
    rw [env_at (j := j) _ _ _ (by simp; omega) (hsome i hi) ?_ ?_]
    · simp [List.getD, List.getElem?_take, hj]
    · unfold dstOf at hd
      rw [show l.toArray[j]? = some l[j] by simp [hjl]] at hd
      exact ⟨l[j], by simp [List.getElem?_take, hj, hjl], hd⟩
    · intro k o hjk ho hdo
      have hkl : k < i := by
        refine Classical.byContradiction fun hc => ?_
        rw [List.getElem?_take, if_neg hc] at ho; cases ho
      rw [List.getElem?_take, if_pos hkl] at ho
      obtain ⟨d', h1, _, h3⟩ := hdst j (by omega)
      have : d' = d := by rw [hd] at h1; exact (Option.some.inj h1).symm
      subst this
      refine h3 k (by omega) (by omega) ?_
      unfold dstOf
      rw [show l.toArray[k]? = some o by simpa using ho]
      exact hdo
  refine rg2e (Nm := Unit) (σ := σ) n [] [[]] (List.replicate n [(0, 0)]) 0 [fun _ σm => σm.w.heap = σ.w.heap ∧ Md (cov []) σ σm] (vs.map fun v _ => v) () hm hB (fun σ1 hh m => ⟨hh, m⟩) ?_ ?_
  · -- each operation
    have main : ∀ i o, i < n → l.toArray[i]? = some o → ∀ k, Ob (Nm := Unit) P l.toArray N n ρ0 (Jl [fun _ σm => σm.w.heap = σ.w.heap ∧ Md (cov []) σ σm]) (Vl (vs.map fun v _ => v)) i o k k := by
      intro i o hi ho k nm ρ σm hJ hoff hdep
      have hS1 := List.all_eq_true.1 hS i (List.mem_range.2 hi)
      rw [ho] at hS1
      simp only [Bool.and_eq_true] at hS1
      obtain ⟨⟨hsel, hops⟩, hgd⟩ := hS1
      have hV : ∀ j, j < n → Vl (vs.map fun v (_ : Unit) => v) j nm = vs.getD j undef := by
        intro j hj
        unfold Vl
        have : j < vs.length := by omega
        simp [List.getD, this]
      have hlook : ∀ j d, waits o j = true → j < i → dstOf l.toArray j = some d → look N ρ d = look N (env (l.take i) (vs.take i) ρ0) d := by
        intro j d hw hj hd
        obtain ⟨d', h1, hdN, _⟩ := hdst j (by omega)
        have : d' = d := by rw [hd] at h1; exact (Option.some.inj h1).symm
        subst this
        rw [hdep j hw (blt_t (by omega)) d' hd, hV j (by omega), look_lt _ hdN, henvat i j d' (by omega) hj hd]
      have hev : ∀ x ∈ o.op.operands, ev N ρ x = ev N (env (l.take i) (vs.take i) ρ0) x := by
        intro x hx
        refine ev_of_look fun t ht => ?_
        subst ht
        have := List.all_eq_true.1 hops (.tmp t) (by simpa using hx)
        simp only [optB, Bool.or_eq_true] at this
        rcases this with h | h
        · unfold look
          rw [hoff t h, henvoff i t (by omega) (off_of h)]
        · obtain ⟨j, hj, hjw⟩ := List.any_eq_true.1 h
          simp only [Bool.and_eq_true] at hjw
          exact hlook j t hjw.1 (List.mem_range.1 hj) (by simpa using hjw.2)
      have hyv : ∀ j b, o.guard = some (j, b) → yv l.toArray N ρ j = yv l.toArray N (env (l.take i) (vs.take i) ρ0) j := by
        intro j b hg
        rw [hg] at hgd
        simp only [Bool.and_eq_true] at hgd
        have hji : j < i := Classical.byContradiction fun hc => by rw [blt_f hc] at hgd; cases hgd.2
        obtain ⟨d, h1, _, _⟩ := hdst j (by omega)
        have hl := hlook j d hgd.1 hji h1
        unfold dstOf at h1
        unfold yv
        simp only [h1, hl]
      obtain ⟨d, hd, hor⟩ := hst i o (by rw [hget i hi]; exact ho)
      rw [htt i (by omega)] at hor
      have hJ2 : σm.w.heap = σ.w.heap := by
        unfold Jl at hJ
        cases k with
        | zero => exact hJ.1
        | succ k => simp at hJ
      rcases hor with ⟨hw, hr⟩ | ⟨hw, hv⟩
      · refine dp_v (v := vs.getD i undef) ?_ ?_ (hV i hi) hJ
        · rw [wanted_congr hyv]; exact hw
        · rw [hJ2]; exact runV_congr hsel hev hr
      · refine dp_skip ?_ (by rw [hV i hi]; exact hv) hJ
        rw [wanted_congr hyv]; exact hw
    have build : ∀ m k : Nat, k + m = n → ∀ r : List Oper, r = l.drop k → AllOps (fun i o => AllK (Ob (Nm := Unit) P l.toArray N n ρ0 (Jl [fun _ σm => σm.w.heap = σ.w.heap ∧ Md (cov []) σ σm]) (Vl (vs.map fun v _ => v)) i o) (AtL (List.replicate n [(0, 0)]) i)) m k r := by
      intro m
      induction m with
      | zero => intro k _ r _; exact all_nil
      | succ m ih =>
        intro k hk r hr
        have hkl : k < l.length := by omega
        rw [List.drop_eq_getElem_cons hkl] at hr
        subst hr
        have hat : AtL (List.replicate n [(0, 0)]) k = [(0, 0)] := by
          unfold AtL
          have : k < n := by omega
          simp [List.getD, this]
        refine all_cons ?_ (ih (k + 1) (by omega) _ rfl)
        simp only [hat]
        exact ⟨main k l[k] (by omega) (by simp [hkl]) 0, trivial⟩
    exact build n 0 (by omega) l (by simp)
  · intro nm ρ σ' hJ hoff hrel
    have hJ2 : Md (cov []) σ σ' := hJ.2
    have hfr : fr N ρ = fr N (env (l.take n) vs ρ0) := by
      refine fr_ext fun t ht => ?_
      have hvt : vs.take n = vs := List.take_of_length_le (by omega)
      by_cases hoffb : offB l.toArray n t = true
      · have := henvoff n t (Nat.le_refl _) (off_of hoffb)
        rw [hvt] at this
        rw [hoff t hoffb, this]
      · have : ∃ i, i < n ∧ dstOf l.toArray i = some t := by
          refine Classical.byContradiction fun hc => hoffb ?_
          unfold offB
          rw [List.all_eq_true]
          intro i hi
          have : dstOf l.toArray i ≠ some t := fun e => hc ⟨i, List.mem_range.1 hi, e⟩
          simpa using this
        obtain ⟨i, hi, hd⟩ := this
        have h1 := hrel i (blt_t hi) t hd
        rw [look_lt _ ht] at h1
        have h2 := henvat n i t (Nat.le_refl _) hi hd
        rw [hvt] at h2
        rw [h1, h2]
        unfold Vl
        have : i < vs.length := by omega
        simp [List.getD, this]
    rw [hfr]
    exact hK σ' hJ2
variable {ρ : Nat → Value} {v : Value} {r : List Oper} {d : Nat} {op : Op} {ty : TypeId} {pos : String} {af : Array Edge} {gd : Option (Nat × Bool)}
theorem sq (hr : RunV P H N ρ ⟨some d, op, ty, pos, af, none⟩ v) (k : SeqW P ops H N K r (upd ρ d v)) : SeqW P ops H N K (⟨some d, op, ty, pos, af, none⟩ :: r) ρ := ⟨v, d, rfl, .inl ⟨wanted_none _ rfl _, hr⟩, k⟩
theorem sq_g {j : Nat} {b : Bool} (hy : yv ops N ρ j = some b) (hr : RunV P H N ρ ⟨some d, op, ty, pos, af, some (j, b)⟩ v) (k : SeqW P ops H N K r (upd ρ d v)) : SeqW P ops H N K (⟨some d, op, ty, pos, af, some (j, b)⟩ :: r) ρ := ⟨v, d, rfl, .inl ⟨wanted_yes rfl hy, hr⟩, k⟩
theorem sq_skip {j : Nat} {b : Bool} (hy : yv ops N ρ j = some (!b)) (k : SeqW P ops H N K r (upd ρ d undef)) : SeqW P ops H N K (⟨some d, op, ty, pos, af, some (j, b)⟩ :: r) ρ := ⟨undef, d, rfl, .inr ⟨wanted_no rfl hy, rfl⟩, k⟩
theorem sq_end (h : K ρ) : SeqW P ops H N K [] ρ := h
end
end Go.Vs

namespace Go.Vs
open Go

abbrev Fz (r : Option Nat) : Fence := { Fence.wide with round := r }

section
variable {P : Program} {ops : Array Oper} {Q : Exit → Act → World → Prop} {n d : Nat} {ρ : Nat → Value} {σ σ0 : St} {w : World} {v : Value} {rest : List Oper} {r : Option Nat}
variable {op : Op} {ty : TypeId} {pos : String} {af : Array Edge} {gd : Option (Nat × Bool)}

theorem stI (hnd : ∀ c, op ≠ .defer c) (hr : RunV P w.heap n ρ ⟨some d, op, ty, pos, af, none⟩ v) (k : wpListIn (Fz r) 0 P ops Q rest (fr n (upd ρ d v)) w) :
    wpListIn (Fz r) 0 P ops Q (⟨some d, op, ty, pos, af, none⟩ :: rest) (fr n ρ) w := by
  unfold wpListIn
  rw [if_pos (by rw [yielded_fr]; exact wanted_none _ rfl _)]
  refine ⟨fun _ _ => trivial, ?_⟩
  rw [Oper.semAt_eq _ _ _ hnd, fr_eval, hr w rfl]
  simp only [Oper.uponIn_value, fr_put]
  exact k
theorem stI_ex {Rz : Value → St → Prop} (hnd : ∀ c, op ≠ .defer c) (he : Ex P σ n ρ ⟨some d, op, ty, pos, af, none⟩ Rz)
    (k : ∀ v (σ' : St), Rz v σ' → wpListIn (Fz r) 0 P ops Q rest (fr n (upd ρ d v)) σ'.w) : wpListIn (Fz r) 0 P ops Q (⟨some d, op, ty, pos, af, none⟩ :: rest) (fr n ρ) σ.w := by
  obtain ⟨v, σ', h1, h2⟩ := he
  unfold wpListIn
  rw [if_pos (by rw [yielded_fr]; exact wanted_none _ rfl _)]
  refine ⟨fun _ _ => trivial, ?_⟩
  have h1' : (execOp (ev n ρ) ⟨some d, op, ty, pos, af, none⟩).run P σ.w = .ok (.value v) σ'.w := h1
  rw [Oper.semAt_eq _ _ _ hnd, fr_eval, h1']
  simp only [Oper.uponIn_value, fr_put]
  exact k v σ' h2
theorem stI_exS {Rs : St → Prop} (hnd : ∀ c, op ≠ .defer c) (he : ExS P σ n ρ ⟨none, op, ty, pos, af, none⟩ Rs)
    (k : ∀ (σ' : St), Rs σ' → wpListIn (Fz r) 0 P ops Q rest (fr n ρ) σ'.w) : wpListIn (Fz r) 0 P ops Q (⟨none, op, ty, pos, af, none⟩ :: rest) (fr n ρ) σ.w := by
  obtain ⟨σ', h1, h2⟩ := he
  unfold wpListIn
  rw [if_pos (by rw [yielded_fr]; exact wanted_none _ rfl _)]
  refine ⟨fun _ _ => trivial, ?_⟩
  have h1' : (execOp (ev n ρ) ⟨none, op, ty, pos, af, none⟩).run P σ.w = .ok .skip σ'.w := h1
  rw [Oper.semAt_eq _ _ _ hnd, fr_eval, h1']
  simp only [Oper.uponIn_skip, fr_put_none]
  exact k σ' h2
theorem stI_yield {xs : Array Operand} {Ts : Array TypeId} {y : Operand} {l : Nat} {args : List Value} {R : Ending → World → Prop} (hf : ev n ρ y = .func (.yield l) #[] #[]) (hx : xs.toList.map (ev n ρ) = args) (hy : YieldAt Fence.wide 0 P l args.toArray w R)
    (k : ∀ e w', R e w' → ∃ v, e = .returned v ∧ wpListIn (Fz r) 0 P ops Q rest (fr n (upd ρ d v)) w') :
    wpListIn (Fz r) 0 P ops Q (⟨some d, .call ⟨.value y, xs, Ts⟩, ty, pos, af, none⟩ :: rest) (fr n ρ) w := by
  obtain ⟨fn, tmps, assign, body, h1, h2⟩ := hy
  unfold wpListIn
  rw [if_pos (by rw [yielded_fr]; exact wanted_none _ rfl _)]
  refine ⟨fun _ _ => trivial, ?_⟩
  rw [Oper.semAt_eq _ _ _ (fun c h => by cases h), fr_eval]
  have hx' : xs.map (ev n ρ) = args.toArray := by rw [← hx, ← Array.toList_map]
  have h3 : (execOp (ev n ρ) ⟨some d, .call ⟨.value y, xs, Ts⟩, ty, pos, af, none⟩).run P w = .ok (.round l fn tmps assign body) w := by
    simp only [execOp, resolve, hf, Deferred.ofValue, Sem.run_bind, Sem.run_pure, Result.andThen_ok, invoke, hx']
    simp [h1]
  rw [h3, Oper.uponIn_round]
  refine ⟨fun h => (by cases h), ?_⟩
  have h2' : RoundIn (Fz r) 0 P l fn tmps assign body w R := h2
  refine h2'.mono ?_
  intro e w' hR
  obtain ⟨v, rfl, hk⟩ := k e w' hR
  simp only [fr_put]
  exact hk
theorem endI (h : Q .normal (fr n ρ) w) : wpListIn (Fz r) 0 P ops Q [] (fr n ρ) w := h
theorem rgI {id : Nat} {l : List Oper} (h : wpListIn (Fz r) 0 P l.toArray Q l (fr n ρ) w) : (Code.region id l.toArray false).wpIn (Fz r) 0 P Q (fr n ρ) w := wpIn_region_lit h
theorem cdI_cond {c : Operand} {x y : Code} (b : Bool) (hc : ev n ρ c = .bool b) (ht : b = true → x.wpIn (Fz r) 0 P Q (fr n ρ) w) (hf : b = false → y.wpIn (Fz r) 0 P Q (fr n ρ) w) :
    (Code.cond c x y).wpIn (Fz r) 0 P Q (fr n ρ) w := wpIn_cond_split (by rw [fr_eval]; exact hc) ht hf
end

def Ch.lp (l : Nat) (r : Loop) : Ch where
  dup := false
  fp i := i = l
  as σ := σ.w.heap[l]? = some (.loop r) ∧ σ.vis l = 0
  hdup h := by cases h
  hlt h i e := by subst e; exact lt_of_block h.1
  hst m hd h := by
    have hb := lt_of_block h.1
    have hS := hd l rfl
    exact ⟨(m.block l hb hS).trans h.1, (m.vis l hb hS).trans h.2⟩
def Ch.df (l : Nat) : Ch where
  dup := false
  fp i := i = l
  as σ := σ.w.heap[l]? = some (.deferred (some [])) ∧ σ.vis l = 0
  hdup h := by cases h
  hlt h i e := by subst e; exact lt_of_block h.1
  hst m hd h := by
    have hb := lt_of_block h.1
    have hS := hd l rfl
    exact ⟨(m.block l hb hS).trans h.1, (m.vis l hb hS).trans h.2⟩

section
variable {P : Program} {S0 : BS} {σ0 σ : St} {L : List Ch}
theorem Hp.newLp (H : Hp S0 σ0 σ L) (r : Loop) : Hp S0 σ0 (σ.new (.loop r) 0) (Ch.lp σ.size r :: L) :=
  Hp.frame0 (A' := [Ch.lp σ.size r]) H (Hp.fresh (St.new_mod _ _ _) _ ⟨St.new_new _ _ _, St.new_vis _ _ _⟩ (fun b hb => Nat.le_of_eq (Eq.symm hb)))
theorem Hp.newDf (H : Hp S0 σ0 σ L) : Hp S0 σ0 (σ.new (.deferred (some [])) 0) (Ch.df σ.size :: L) :=
  Hp.frame0 (A' := [Ch.df σ.size]) H (Hp.fresh (St.new_mod _ _ _) _ ⟨St.new_new _ _ _, St.new_vis _ _ _⟩ (fun b hb => Nat.le_of_eq (Eq.symm hb)))
theorem Hp.setLp {l : Nat} {r : Loop} (H : Hp S0 σ0 σ (Ch.lp l r :: L)) (r' : Loop) : Hp S0 σ0 (σ.put l (.loop r')) (Ch.lp l r' :: L) := by
  have h := H.all.1
  refine Hp.frame1 (A' := [Ch.lp l r']) H (Hp.one ((St.put_mod h.2).md.mono fun i hi => .inl ?_) ⟨World.put_at _ (lt_of_block h.1), h.2⟩ (fun b hb _ => .inl hb))
  exact (Option.some.inj hi).symm
theorem Hp.putDf {l : Nat} (H : Hp S0 σ0 σ (Ch.df l :: L)) (o : Obj) : Hp S0 σ0 (σ.put l o) L := by
  have h := H.all.1
  refine Hp.frame1 (A' := []) H ⟨(St.put_mod h.2).md.mono fun i hi => .inl ?_, trivial, trivial, fun b hb => hb.elim⟩
  exact (Option.some.inj hi).symm

theorem Hp.drop : ∀ (R : List Ch) {L : List Ch}, Hp S0 σ0 σ (R ++ L) → Hp S0 σ0 σ L
  | [], _, H => H
  | _ :: R, _, H => Hp.drop R H.tail
theorem wp_rangeF {g : Operand} {ps : Array Tmp} {assign body : Code} {Q : Exit → Act → World → Prop} {a : Act} {gf : Nat} {lb : Array Value} {N : Nat} {encs : Nat → Array Value}
    (hg : a.eval g = .func (.func gf) #[] lb) (eg : ∀ args w, (callFunc gf args).run P w = .ok (.enter gf args) w) (hps : ∀ i, i < N → (encs i).size = ps.size)
    (K : Nat → List Ch → Prop) (hK : K 0 L) (H : Hp S0 σ0 σ L)
    (hseq : ∀ (l : Nat) (J : Nat → St → Prop), (∀ {i σ σ'}, J i σ → Md (fun _ => False) σ σ' → J i σ') → (∀ {i σ}, J i σ → ∃ L R, K i L ∧ Hp S0 σ0 σ (R ++ L)) →
      (∀ i, i < N → ∀ σ, J i σ → YieldAt Fence.wide 0 P l (encs i) σ.w fun e W' => e = .returned (.bool true) ∧ ∃ σ', W' = σ'.w ∧ J (i + 1) σ') →
      ∀ σ, J 0 σ → CallsIn Fence.wide 0 P gf (#[.func (.yield l) #[] #[]] ++ lb) σ.w fun e W' => (∃ v, e = .returned v) ∧ ∃ σ', W' = σ'.w ∧ J N σ')
    (hbody : ∀ (l D i : Nat) (r r' : Loop), i < N → ∀ σ L, K i L → Hp S0 σ0 σ (Ch.lp l r :: Ch.df D :: L) →
      assign.wpIn (Fz (some l)) 0 P (Exit.then (fun a₁ w₁ => ∃ σ1 L1, w₁ = σ1.w ∧ Hp S0 σ0 σ1 (Ch.lp l r :: Ch.df D :: L1) ∧ ∀ σ2, Hp S0 σ0 σ2 (Ch.lp l r' :: Ch.df D :: L1) →
        body.wpIn (Fz (some l)) 0 P (fun e _ w => e = .normal ∧ ∃ σ3 L3, w = σ3.w ∧ K (i + 1) L3 ∧ Hp S0 σ0 σ3 (Ch.lp l r' :: Ch.df D :: L3)) a₁ σ2.w) (fun _ _ _ => False))
        { tmps := (ps.zip (encs i)).foldl (fun t (p, v) => t.setIfInBounds p v) a.tmps, defers := [] } σ.w)
    (hdone : ∀ (D : Nat) σ' L', K N L' → Hp S0 σ0 σ' (Ch.df D :: L') → Q .normal { a with defers := { target := .collected D, args := #[] } :: a.defers } σ'.w) :
    (Code.rangeFunc g ps assign body).wpIn (Fz none) 0 P Q a σ.w := by
  refine wpIn_rangeFunc ?_
  intro fn hfn
  obtain ⟨rec, hrec⟩ : ∃ rec : LoopState → Option Code → Loop, rec = fun st pe => { state := st, pending := pe, fn, tmps := a.tmps, params := ps, assign, body, defers := σ.w.heap.size } := ⟨_, rfl⟩
  have H1 := (H.newDf).newLp (rec .ready none)
  generalize hσ1 : (σ.new (.deferred (some [])) 0).new (.loop (rec .ready none)) 0 = σ1 at H1
  have hs : (σ.new (.deferred (some [])) 0).size = σ.w.heap.size + 1 := St.new_size _ _ _
  rw [hs] at H1
  have hsz : σ.size = σ.w.heap.size := rfl
  rw [hsz] at H1
  generalize hl : σ.w.heap.size + 1 = l at *
  generalize hD : σ.w.heap.size = D at *
  refine ⟨l, [{ target := .collected D, args := #[] }], σ1.w, { target := .fn (.func gf) lb, args := #[.func (.yield l) #[] #[]] }, σ1.w, gf, #[.func (.yield l) #[] #[]] ++ lb, σ1.w, ?_, ?_, ?_, ?_, fun h => (by cases h), ?_⟩
  · have := run_enterLoop_outer (P := P) (w := σ.w) fn a.tmps ps assign body
    rw [this, ← hσ1, hrec, hD, hl]
    rfl
  · simp only [resolve, hg]
    simp [go_sem]
  · intro f' hf'; trivial
  · simp [invoke, go_sem, eg]
  · refine (hseq l (fun i σ => ∃ L, K i L ∧ Hp S0 σ0 σ (Ch.lp l (rec .ready none) :: Ch.df D :: L)) (fun ⟨L, h1, h2⟩ m => ⟨L, h1, h2.grow m⟩) (fun ⟨L, h1, h2⟩ => ⟨L, [_, _], h1, h2⟩) ?_ σ1 ⟨L, hK, H1⟩).mono ?_
    · rintro i hi σ2 ⟨L2, hK2, H2⟩
      have hl2 := H2.all.1.1
      have hy := run_yield (P := P) (args := encs i) hl2 (by rw [hrec]; exact hps i hi)
      rw [hrec] at hy
      refine ⟨fn, _, assign, body, hy, roundIn_of_wpIn hfn ?_⟩
      refine wpIn_mono (hbody l D i (rec .ready none) { rec .ready none with state := .busy } hi σ2 L2 hK2 H2) ?_
      intro e a1 w1 hq
      cases e with
      | normal =>
        obtain ⟨σ3, L3, rfl, H3, hb⟩ := hq
        refine ⟨_, run_beginRound H3.all.1.1 (by rw [hrec]), ?_⟩
        have H4 := H3.setLp { rec .ready none with state := .busy }
        refine wpIn_mono (hb _ H4) ?_
        rintro e a3 w3 ⟨rfl, σ5, L5, rfl, hK5, H5⟩
        refine ⟨_, _, run_endRound none H5.all.1.1, rfl, σ5.put l (.loop (rec .ready none)), ?_, L5, hK5, H5.setLp _⟩
        rw [hrec]; rfl
      | ret => exact hq.elim
      | exit id => exact hq.elim
      | goto t => exact hq.elim
      | panic ch => exact hq.elim
      | outgrown => exact hq.elim
    · rintro e W2 ⟨⟨v, rfl⟩, σ2, rfl, L2, hK2, H2⟩
      refine ⟨none, _, ?_, hdone D _ L2 hK2 (H2.setLp { rec .ready none with state := .exhausted }).tail⟩
      have := run_endLoop (P := P) H2.all.1.1 (by rw [hrec]; simp)
      rw [hrec] at this ⊢
      exact this
end

theorem gidx_at {α : Type} {xs : List α} {i : Nat} (h : i < xs.length) : gidx xs (i : Int) = some xs[i] := by
  unfold gidx
  rw [if_pos (by omega)]
  simp [h]
noncomputable def M.coll {α : Type} (xs : List α) : Option (List α) := if xs.length ≤ 2147483648 then some xs else none
theorem coll_some {α : Type} {xs r : List α} (h : M.coll xs = some r) : xs.length ≤ 2147483648 ∧ r = xs := by
  unfold M.coll at h; split at h
  · exact ⟨by assumption, (Option.some.inj h).symm⟩
  · cases h
theorem take_gapp {α : Type} {xs : List α} {i : Nat} (h : i < xs.length) (hn : xs.length ≤ 2147483648) : gapp (xs.take i) [xs[i]] = some (xs.take (i + 1)) := by
  unfold gapp
  rw [if_pos (by simp; omega), List.take_succ_eq_append_getElem h]

/-! ## Into and out of functions with such a statement -/
section
variable {P : Program} {ops : Array Oper} {Q : Exit → Act → World → Prop} {n d : Nat} {ρ : Nat → Value} {σ σ0 : St} {w : World} {v : Value} {rest : List Oper} {r : Option Nat} {S0 : BS} {L : List Ch}
variable {op : Op} {ty : TypeId} {pos : String} {af : Array Edge}
def frd (n : Nat) (ds : List Deferred) (ρ : Nat → Value) : Act := { fr n ρ with defers := ds }
theorem frd_eval {ds : List Deferred} : (frd n ds ρ).eval = (fr n ρ).eval := by funext x; cases x <;> rfl
theorem frd_put {ds : List Deferred} : (frd n ds ρ).put (some d) v = frd n ds (upd ρ d v) := by
  have := fr_put n ρ d v
  unfold frd
  simp only [Act.put] at this ⊢
  rw [← this]
theorem stD {ds : List Deferred} (hnd : ∀ c, op ≠ .defer c) (hr : RunV P w.heap n ρ ⟨some d, op, ty, pos, af, none⟩ v) (k : wpListIn (Fz r) 0 P ops Q rest (frd n ds (upd ρ d v)) w) :
    wpListIn (Fz r) 0 P ops Q (⟨some d, op, ty, pos, af, none⟩ :: rest) (frd n ds ρ) w := by
  unfold wpListIn
  rw [if_pos (wanted_none _ rfl _)]
  refine ⟨fun _ _ => trivial, ?_⟩
  rw [Oper.semAt_eq _ _ _ hnd, frd_eval, fr_eval, hr w rfl]
  simp only [Oper.uponIn_value, frd_put]
  exact k
theorem endD {ds : List Deferred} (h : Q .normal (frd n ds ρ) w) : wpListIn (Fz r) 0 P ops Q [] (frd n ds ρ) w := h
theorem rgD {id : Nat} {l : List Oper} {ds : List Deferred} (h : wpListIn (Fz r) 0 P l.toArray Q l (frd n ds ρ) w) : (Code.region id l.toArray false).wpIn (Fz r) 0 P Q (frd n ds ρ) w := wpIn_region_lit h
theorem round_fr {p : Nat} : ({ tmps := (Array.zip #[p] #[v]).foldl (fun t (p, v) => t.setIfInBounds p v) (fr n ρ).tmps, defers := [] } : Act) = fr n (upd ρ p v) := by
  rw [← fr_put]
  have : (Array.zip #[p] #[v]) = #[(p, v)] := by simp
  simp [this, Act.put, fr]
theorem eg_of {f : FuncId} (hf : ∃ fn c, P.funcs[f]? = some fn ∧ (fn.name == "runtime.NumGoroutine") = false ∧ fn.body = some c) (args : Array Value) (w : World) : (callFunc f args).run P w = .ok (.enter f args) w := by
  obtain ⟨fn, c, h1, h2, h3⟩ := hf
  simp only [callFunc, Sem.run_bind, run_program, Result.andThen_ok, h1, h2, h3]
  simp
theorem enterI {f : FuncId} {fn : Func} {c : Code} {l : List Value} {R : Ending → World → Prop} (hf : P.funcs[f]? = some fn) (hb : fn.body = some c) (hn : fn.ntmps = n) (hl : Nat.ble l.length n = true)
    (h : c.wpIn (Fz none) 0 P (bodyPostM Fence.wide 0 P fn R) (fr n (argsρ l)) w) : CallsIn Fence.wide 0 P f l.toArray w R := by
  refine callsIn_of_wp_marks hf hb trivial ?_
  have := fr_args l n (by simpa using hl)
  simp only [List.size_toArray, hn, this]
  exact h
theorem fin_plain' {fn : Func} {R : Ending → World → Prop} (hr : (results fn (fr n ρ).tmps).run P w = .ok v w) (hp : R (.returned v) w) : bodyPostM Fence.wide 0 P fn R .normal (fr n ρ) w := ⟨v, hr, hp⟩
theorem fin_mark {fn : Func} {R : Ending → World → Prop} {D : Nat} (H : Hp S0 σ0 σ (Ch.df D :: L)) (hr : (results fn (fr n ρ).tmps).run P (σ.put D (.deferred none)).w = .ok v (σ.put D (.deferred none)).w) (hp : R (.returned v) (σ.put D (.deferred none)).w) :
    bodyPostM Fence.wide 0 P fn R .ret (frd n [{ target := .collected D, args := #[] }] ρ) σ.w :=
  ⟨by simp, .inl ⟨D, _, rfl, run_takeDeferred H.all.1.1, v, hr, hp⟩⟩
end
end Go.Vs

namespace Go.Vs
open Go

inductive Tr (α : Type) where
  | nil
  | node (x : α) (n : Int) (l r : Tr α)
def Tr.get {α : Type} : Tr α → Option (α × Int × Tr α × Tr α)
  | .nil => none
  | .node x n l r => some (x, n, l, r)
def Tr.isNil {α : Type} : Tr α → Bool
  | .nil => true
  | .node .. => false
def Tr.mk {α : Type} (p : α × Int × Tr α × Tr α) : Tr α := .node p.1 p.2.1 p.2.2.1 p.2.2.2
section
variable {α : Type} [Rp α]
def RT (lo : Nat) (σ : St) : Value → Tr α → Prop
  | v, .nil => v = .pointer none
  | v, .node x n l r => ∃ b o c vl vr, v = pt b o ∧ lo ≤ b ∧ o + (Rp.sz α + 3) ≤ σ.vis b ∧ Rp.rp lo σ c x ∧ RT lo σ vl l ∧ RT lo σ vr r ∧
      ∀ j, (h : j < (c ++ [I n, vl, vr]).length) → σ.cell b (o + j) = some (c ++ [I n, vl, vr])[j]

theorem RT.plain {lo : Nat} {σ : St} {v : Value} {t : Tr α} (h : RT lo σ v t) : plain v = true := by
  cases t with
  | nil => rw [show v = .pointer none from h]; rfl
  | node x n l r => obtain ⟨b, o, c, vl, vr, rfl, _⟩ := h; rfl
theorem RT.extL {lo : Nat} {σ σ' : St} (hE : ExtL lo σ σ') : ∀ {t : Tr α} {v : Value}, RT lo σ v t → RT lo σ' v t
  | .nil, _, h => h
  | .node x n l r, _, ⟨b, o, c, vl, vr, h1, h2, h3, h4, h5, h6, h7⟩ => by
    refine ⟨b, o, c, vl, vr, h1, h2, Nat.le_trans h3 (hE.vis b h2), Rp.extL hE h4, RT.extL hE h5, RT.extL hE h6, fun j hj => ?_⟩
    have hl : (c ++ [I n, vl, vr]).length = Rp.sz α + 3 := by rw [List.length_append, Rp.len h4]; rfl
    rw [hE.cell b _ h2 (by omega)]
    exact h7 j hj
theorem RT.low {lo lo' : Nat} {σ : St} (hl : lo' ≤ lo) : ∀ {t : Tr α} {v : Value}, RT lo σ v t → RT lo' σ v t
  | .nil, _, h => h
  | .node x n l r, _, ⟨b, o, c, vl, vr, h1, h2, h3, h4, h5, h6, h7⟩ => ⟨b, o, c, vl, vr, h1, Nat.le_trans hl h2, h3, Rp.low hl h4, RT.low hl h5, RT.low hl h6, h7⟩
instance : Rp (Tr α) where
  sz := 1
  rp lo σ cs t := ∃ v, cs = [v] ∧ RT lo σ v t
  pos := by decide
  len := by rintro _ _ _ _ ⟨v, rfl, _⟩; rfl
  extL := by rintro _ _ _ _ _ hE ⟨v, rfl, h⟩; exact ⟨v, rfl, h.extL hE⟩
  low := by rintro _ _ _ _ _ hl ⟨v, rfl, h⟩; exact ⟨v, rfl, h.low hl⟩
  one := by
    rintro _ _ _ _ ⟨v, rfl, h⟩ c hc
    simp only [List.mem_singleton] at hc
    rw [hc]; exact h.plain

theorem RT.at' {lo : Nat} {σ : St} {v : Value} {t : Tr α} {p : α × Int × Tr α × Tr α} (h : RT lo σ v t) (hp : t.get = some p) : ∃ b o, v = pt b o ∧ At lo σ b o p := by
  cases t with
  | nil => cases hp
  | node x n l r =>
    cases hp
    obtain ⟨b, o, c, vl, vr, h1, h2, h3, h4, h5, h6, h7⟩ := h
    exact ⟨b, o, h1, c ++ [I n, vl, vr], ⟨c, [I n, vl, vr], rfl, h4, [I n], [vl, vr], rfl, rfl, [vl], [vr], rfl, ⟨vl, rfl, h5⟩, ⟨vr, rfl, h6⟩⟩, h7⟩

theorem RT.ex {lo : Nat} {σ : St} {v : Value} {t : Tr α} {p : α × Int × Tr α × Tr α} (h : RT lo σ v t) (hp : t.get = some p) : ∃ b o, v = pt b o := by
  obtain ⟨b, o, h, _⟩ := h.at' hp
  exact ⟨b, o, h⟩
theorem RT.at {lo : Nat} {σ : St} {v : Value} {t : Tr α} {p : α × Int × Tr α × Tr α} {b o : Nat} (h : RT lo σ v t) (hp : t.get = some p) (hv : v = pt b o) : At lo σ b o p := by
  obtain ⟨b', o', h1, h2⟩ := h.at' hp
  rw [hv] at h1
  cases h1
  exact h2
theorem RT.hmd {S : BS} {lo : Nat} {σ σ' : St} {v u : Value} {t : Tr α} {p : α × Int × Tr α × Tr α} {b o : Nat} (h : RT lo σ v t) (hp : t.get = some p) (hv : v = pt b o) {k : Nat} (hk : k < Rp.sz α + 3)
    (hc : HCell σ.w.heap b (o + k) = some u) (m : Md S σ σ') : HCell σ'.w.heap b (o + k) = some u := by
  cases t with
  | nil => cases hp
  | node x n l r =>
    obtain ⟨b', o', c, vl, vr, h1, h2, h3, _⟩ := h
    rw [hv] at h1
    cases h1
    rw [HCell_eq] at hc ⊢
    exact (m.ext.cell b (o + k) (by omega)).trans hc
def Ch.pr (el : Nat) (v : Value) (t : Tr α) : Ch where
  dup := true
  fp _ := False
  as σ := RT el σ v t
  hdup _ _ := id
  hlt _ _ h := h.elim
  hst m _ h := RT.extL (m.ext.extL el) h
variable {S0 : BS} {σ0 σ : St} {L R : List Ch} {el lo b i : Nat} {v : Value} {t : Tr α} {cs : List Value}
theorem Hp.pr (H : Hp S0 σ0 σ L) (i : Nat) (h : nth L i = some (Ch.pr el v t)) : RT el σ v t := H.get h
end

section
variable {α : Type} [Rp α] {P : Program} {H : Array Obj} {n lo : Nat} {ρ : Nat → Value} {d : Option Nat} {ty T T' : TypeId} {pos : String} {af : Array Edge} {gd : Option (Nat × Bool)} {x y : Operand} {v : Value} {t : Tr α} {σ : St}
end
end Go.Vs

namespace Go.Vs
open Go

instance : Rp Value where
  sz := 1
  rp _ _ cs x := cs = [x] ∧ plain x = true
  pos := by decide
  len := by rintro _ _ _ _ ⟨rfl, _⟩; rfl
  extL := fun _ h => h
  low := fun _ h => h
  one := by rintro _ _ _ _ ⟨rfl, h⟩; simpa using h
instance : Sc Value := ⟨fun h => h⟩

section
variable {S0 : BS} {σ0 σ : St} {L K R : List Ch} {c : Ch}
theorem Hp.bigCons (H : Hp S0 σ0 σ (c :: Ch.big K :: R)) : Hp S0 σ0 σ (Ch.big (c :: K) :: R) :=
  ⟨H.md, ⟨⟨⟨H.all.1, H.all.2.1.1⟩, ⟨fun b hb h => H.ap.1 b hb (.inl h), H.all.2.1.2⟩⟩, H.all.2.2⟩,
    ⟨fun b hb h => hb.elim (fun hb => H.ap.1 b hb (.inr h)) (fun hb => H.ap.2.1 b hb h), H.ap.2.2⟩,
    fun b hb => H.org b (hb.elim (fun hb => hb.elim .inl (fun hb => .inr (.inl hb))) (fun hb => .inr (.inr hb)))⟩
theorem Hp.bigSnoc (H : Hp S0 σ0 σ (c :: Ch.big K :: R)) : Hp S0 σ0 σ (Ch.big (K ++ [c]) :: R) :=
  ⟨H.md, ⟨⟨allAs_append.2 ⟨H.all.2.1.1, H.all.1, trivial⟩, apart_append.2 ⟨H.all.2.1.2, ⟨fun _ _ h => h, trivial⟩, fun b hb h => h.elim (fun h => H.ap.1 b h (.inl hb)) id⟩⟩, H.all.2.2⟩,
    ⟨fun b hb h => (cov_append.1 hb).elim (fun hb => H.ap.2.1 b hb h) (fun hb => hb.elim (fun hb => H.ap.1 b hb (.inr h)) id), H.ap.2.2⟩,
    fun b hb => H.org b (hb.elim (fun hb => (cov_append.1 hb).elim (fun hb => .inr (.inl hb)) (fun hb => hb.elim .inl (fun h => h.elim))) (fun hb => .inr (.inr hb)))⟩
theorem Hp.unbig (H : Hp S0 σ0 σ (Ch.big (c :: K) :: R)) : Hp S0 σ0 σ (c :: Ch.big K :: R) :=
  ⟨H.md, ⟨H.all.1.1.1, ⟨H.all.1.1.2, H.all.1.2.2⟩, H.all.2⟩,
    ⟨fun b hb h => h.elim (H.all.1.2.1 b hb) (H.ap.1 b (.inl hb)), ⟨fun b hb h => H.ap.1 b (.inr hb) h, H.ap.2⟩⟩,
    fun b hb => H.org b (hb.elim (fun hb => .inl (.inl hb)) (fun hb => hb.elim (fun hb => .inl (.inr hb)) .inr))⟩
end

class Dl (α : Type) (β : outParam Type) [Rp α] [Rp β] where
  sh : α → Value → β
  inn : α → List Int
  sz : Rp.sz α = Rp.sz β
  rp : ∀ {lo lo' : Nat} {σ : St} {cs : List Value} {x : α} {h : Value}, Rp.rp lo σ cs (sh x h) → RS lo' σ h (inn x) → Rp.rp lo' σ cs x
instance : Dl (List Int) Value where
  sh _ h := h
  inn x := x
  sz := rfl
  rp := by rintro _ _ _ _ _ _ ⟨rfl, _⟩ h; exact ⟨_, rfl, h⟩
instance : Dl (Int × List Int × Int) (Int × Value × Int) where
  sh x h := (x.1, h, x.2.2)
  inn x := x.2.1
  sz := rfl
  rp := by
    rintro _ _ _ _ _ _ ⟨_, _, rfl, h1, ⟨_, _, rfl, ⟨rfl, _⟩, h3⟩⟩ h
    exact ⟨_, _, rfl, h1, ⟨_, _, rfl, ⟨_, rfl, h⟩, h3⟩⟩

section
variable {α β : Type} [Rp α] [Rp β] [Dl α β]
def dsh (p : α × Value) : β := Dl.sh p.1 p.2
def dow (lo : Nat) (p : α × Value) : Ch := Ch.own lo lo p.2 (Dl.inn p.1)

structure Dp (lo : Nat) (v : Value) (xs : List α) (K : List Ch) : Prop where
  ex : ∃ ps : List (α × Value), xs = ps.map (·.1) ∧ K = Ch.own lo lo v (ps.map dsh) :: ps.map (dow lo)

end

/-! ## Filling -/
end Go.Vs

namespace Go.Vs
open Go

/-! ## What maps hold -/
section
variable {α : Type}
def mput (m : List (Int × List α)) (k : Int) (xs : List α) : List (Int × List α) := match m with
  | [] => [(k, xs)]
  | p :: r => if p.1 = k then (k, xs) :: r else p :: mput r k xs
end
def vfind : List (Int × Value) → Int → Nat → Option (Nat × Value)
  | [], _, _ => none
  | p :: r, k, i => if k = p.1 then some (i, p.2) else vfind r k (i + 1)
def EntsL (es : List (Int × Value)) (E : List MapEntry) : Prop := E.map (fun e => (e.key, e.val)) = es.map (fun p => (I p.1, p.2))
theorem findNow_ok (k : Int) : ∀ (E : List MapEntry) (es : List (Int × Value)) (i : Nat), EntsL es E → Instr.findNow (.int .i64) (I k) E i = some (vfind es k i)
  | [], [], _, _ => rfl
  | [], _ :: _, _, h => by simp [EntsL] at h
  | _ :: _, [], _, h => by simp [EntsL] at h
  | e :: E, p :: es, i, h => by
    simp only [EntsL, List.map_cons, List.cons.injEq, Prod.mk.injEq] at h
    obtain ⟨⟨h1, h2⟩, h3⟩ := h
    have hs : Instr.sameNow (.int .i64) (I k) (I p.1) = some (k == p.1) := rfl
    unfold Instr.findNow vfind
    rw [h1, hs]
    by_cases hk : k = p.1
    · subst hk; simp [h2]
    · have : (k == p.1) = false := by simpa using hk
      rw [this, if_neg hk]
      exact findNow_ok k E es (i + 1) h3
theorem vfind_none {es : List (Int × Value)} {k : Int} : ∀ {i : Nat}, (∀ p ∈ es, p.1 ≠ k) → vfind es k i = none := by
  induction es with
  | nil => intro _ _; rfl
  | cons p r ih =>
    intro i h
    unfold vfind
    rw [if_neg (fun e => h p (by simp) e.symm)]
    exact ih (fun q hq => h q (by simp [hq]))
theorem vfind_some {A B : List (Int × Value)} {k : Int} {v : Value} : ∀ {i : Nat}, (∀ p ∈ A, p.1 ≠ k) → vfind (A ++ (k, v) :: B) k i = some (i + A.length, v) := by
  induction A with
  | nil => intro i _; simp [vfind]
  | cons p r ih =>
    intro i h
    simp only [List.cons_append]
    unfold vfind
    rw [if_neg (fun e => h p (by simp) e.symm), ih (fun q hq => h q (by simp [hq]))]
    simp; omega

/-! ## Chunks -/
def Ch.mp (lo b : Nat) (es : List (Int × Value)) : Ch where
  dup := false
  fp i := i = b
  as σ := (∃ E clk, σ.w.heap[b]? = some (.map E clk) ∧ EntsL es E.toList) ∧ σ.vis b = 0 ∧ lo ≤ b
  hdup h := by cases h
  hlt h i e := by subst e; obtain ⟨⟨E, clk, h1, _⟩, _⟩ := h; exact lt_of_block h1
  hst m hd h := by
    obtain ⟨⟨E, clk, h1, h2⟩, h3, h4⟩ := h
    have hb := lt_of_block h1
    have hS := hd _ rfl
    exact ⟨⟨E, clk, (m.block _ hb hS).trans h1, h2⟩, (m.vis _ hb hS).trans h3, h4⟩

section
variable {α : Type} [Rp α]
abbrev Pm (α : Type) := Int × Value × List α
def pmE (p : Pm α) : Int × Value := (p.1, p.2.1)
def pmM (p : Pm α) : Int × List α := (p.1, p.2.2)
def pmC (lo el : Nat) (p : Pm α) : Ch := Ch.own lo el p.2.1 p.2.2
structure Mp (lo el b : Nat) (m : List (Int × List α)) (K : List Ch) : Prop where
  ex : ∃ ps : List (Pm α), m = ps.map pmM ∧ K = Ch.mp lo b (ps.map pmE) :: ps.map (pmC lo el)
structure MpH (lo el b : Nat) (m : List (Int × List α)) (k : Int) (v : Value) (K : List Ch) : Prop where
  ex : (∃ (A : List (Pm α)) (xs : List α) (B : List (Pm α)), (∀ q ∈ A, q.1 ≠ k) ∧ m = (A ++ (k, v, xs) :: B).map pmM ∧ K = Ch.mp lo b ((A ++ (k, v, xs) :: B).map pmE) :: (A ++ B).map (pmC lo el)) ∨
    ∃ ps : List (Pm α), (∀ q ∈ ps, q.1 ≠ k) ∧ v = .slice none 0 0 ∧ m = ps.map pmM ∧ K = Ch.mp lo b (ps.map pmE) :: ps.map (pmC lo el)
theorem Mp.nil {lo el b : Nat} : Mp (α := α) lo el b [] [Ch.mp lo b []] := ⟨⟨[], rfl, rfl⟩⟩

omit [Rp α] in
theorem mput_some {A B : List (Pm α)} {k : Int} {v v' : Value} {xs ys : List α} (h : ∀ q ∈ A, q.1 ≠ k) : mput ((A ++ (k, v, xs) :: B).map pmM) k ys = (A ++ (k, v', ys) :: B).map pmM := by
  induction A with
  | nil => simp [mput, pmM]
  | cons p r ih =>
    simp only [List.cons_append, List.map_cons]
    unfold mput
    rw [if_neg (show (pmM p).1 ≠ k from h p (by simp)), ih (fun q hq => h q (by simp [hq]))]
omit [Rp α] in
theorem mput_none {ps : List (Pm α)} {k : Int} {v' : Value} {ys : List α} (h : ∀ q ∈ ps, q.1 ≠ k) : mput (ps.map pmM) k ys = (ps ++ [(k, v', ys)]).map pmM := by
  induction ps with
  | nil => rfl
  | cons p r ih =>
    simp only [List.cons_append, List.map_cons]
    unfold mput
    rw [if_neg (show (pmM p).1 ≠ k from h p (by simp)), ih (fun q hq => h q (by simp [hq]))]
end

section
variable {S0 : BS} {σ0 σ σ' : St} {L K R A B : List Ch} {c : Ch}
theorem Hp.bigPut (H : Hp S0 σ0 σ (c :: Ch.big (A ++ B) :: R)) : Hp S0 σ0 σ (Ch.big (A ++ c :: B) :: R) := by
  obtain ⟨⟨h0, ⟨h1, h2⟩, h3⟩, ⟨h4, h5, h6⟩⟩ := And.intro H.all H.ap
  obtain ⟨a1, a2⟩ := allAs_append.1 h1
  obtain ⟨p1, p2, p3⟩ := apart_append.1 h2
  refine ⟨H.md, ⟨⟨allAs_append.2 ⟨a1, h0, a2⟩, apart_append.2 ⟨p1, ⟨fun b hb h => h4 b hb (.inl (cov_append.2 (.inr h))), p2⟩, fun b hb h => ?_⟩⟩, h3⟩, ⟨fun b hb h => ?_, h6⟩, fun b hb => H.org b ?_⟩
  · rcases h with h | h
    · exact h4 b h (.inl (cov_append.2 (.inl hb)))
    · exact p3 b hb h
  · rcases cov_append.1 hb with hb | hb | hb
    · exact h5 b (cov_append.2 (.inl hb)) h
    · exact h4 b hb (.inr h)
    · exact h5 b (cov_append.2 (.inr hb)) h
  · rcases hb with hb | hb
    · rcases cov_append.1 hb with hb | hb | hb
      · exact .inr (.inl (cov_append.2 (.inl hb)))
      · exact .inl hb
      · exact .inr (.inl (cov_append.2 (.inr hb)))
    · exact .inr (.inr hb)
end

/-! ## Taking a value out -/
section
variable {α : Type} [Rp α] {S0 : BS} {σ0 σ σ' : St} {L K R : List Ch} {lo el b i : Nat} {m : List (Int × List α)} {k : Int} {v : Value}
def LkH (H : Array Obj) (b : Nat) (k : Int) (v : Value) : Prop := ∃ E clk es, H[b]? = some (.map E clk) ∧ EntsL es E.toList ∧ ((∃ i, vfind es k 0 = some (i, v)) ∨ (vfind es k 0 = none ∧ v = .slice none 0 0))
theorem LkH.md {S : BS} (h : LkH σ.w.heap b k v) (m : Md S σ σ') (hb : ¬ S b) : LkH σ'.w.heap b k v := by
  obtain ⟨E, clk, es, h1, h2⟩ := h
  exact ⟨E, clk, es, (m.block b (lt_of_block h1) hb).trans h1, h2⟩
omit [Rp α] in
theorem pmE_ne {ps : List (Pm α)} (h : ∀ q ∈ ps, q.1 ≠ k) : ∀ p ∈ ps.map pmE, p.1 ≠ k := by
  intro p hp
  obtain ⟨q, hq, rfl⟩ := List.mem_map.1 hp
  exact h q hq
theorem MpH.look (h : MpH lo el b m k v K) (H : Hp S0 σ0 σ L) (i : Nat) (hn : nth L i = some (Ch.big K)) : LkH σ.w.heap b k v := by
  have hb : allAs σ K ∧ apart K := H.get hn
  rcases h.ex with ⟨A, xs, B, hA, -, rfl⟩ | ⟨ps, hps, rfl, -, rfl⟩
  · obtain ⟨⟨E, clk, h1, h2⟩, _⟩ := hb.1.1
    refine ⟨E, clk, _, h1, h2, .inl ⟨0 + (A.map pmE).length, ?_⟩⟩
    rw [List.map_append, List.map_cons]
    exact vfind_some (pmE_ne hA)
  · obtain ⟨⟨E, clk, h1, h2⟩, _⟩ := hb.1.1
    exact ⟨E, clk, _, h1, h2, .inr ⟨vfind_none (pmE_ne hps), rfl⟩⟩
end

/-! ## Operations -/
theorem run_getMap {P : Program} {w : World} {r : Nat} {E : Array MapEntry} {clk : Nat} (h : w.heap[r]? = some (.map E clk)) : (getObj r).run P w = .ok (.map E clk) w := by
  simp only [getObj, Sem.run, h]
theorem run_setMap {P : Program} {w : World} {r : Nat} {E E' : Array MapEntry} {clk clk' : Nat} (h : w.heap[r]? = some (.map E clk)) : (setObj r (.map E' clk')).run P w = .ok () (World.put w r (.map E' clk')) := by
  simp only [setObj, Sem.run, h]; rfl
theorem run_findKey {P : Program} {w : World} {T : TypeId} {k : Int} {E : List MapEntry} {es : List (Int × Value)} (hT : P.underlying T = some (.int .i64)) (h : EntsL es E) : (Instr.findKey T (I k) E).run P w = .ok (vfind es k 0) w := by
  simp only [Instr.findKey, underlying, Sem.run_bind, run_program, Result.andThen_ok, hT, Sem.run_pure, findNow_ok k E es 0 h]
theorem run_checkKey {P : Program} {w : World} {T : TypeId} {k : Int} {e : Bool} (hT : P.underlying T = some (.int .i64)) : (Instr.checkKey e 10000 T (I k)).run P w = .ok () w := by
  show (Instr.checkKey e (9999 + 1) T (I k)).run P w = _
  unfold Instr.checkKey
  simp only [underlying, Sem.run_bind, run_program, Result.andThen_ok, hT, Sem.run_pure]
section
variable {P : Program} {n : Nat} {ρ : Nat → Value} {dst : Option Nat} {ty T Tk Te : TypeId} {pos : String} {af : Array Edge} {gd : Option (Nat × Bool)} {x y z : Operand} {v v' : Value} {b s bt lo el : Nat} {k : Int} {H : Array Obj}
variable {α : Type} [Rp α] {S0 : BS} {σ0 σ σ' : St} {L K R : List Ch} {m : List (Int × List α)} {xs : List α}
theorem ents_set {A B : List (Int × Value)} {k : Int} {v v' : Value} {E : Array MapEntry} (h : EntsL (A ++ (k, v) :: B) E.toList) :
    EntsL (A ++ (k, v') :: B) (E.modify A.length fun e => { e with key := I k, val := v' }).toList := by
  unfold EntsL at h ⊢
  rw [Array.toList_modify]
  have hl : A.length < E.toList.length := by
    have := congrArg List.length h
    simp at this ⊢; omega
  apply List.ext_getElem
  · have := congrArg List.length h
    simp at this ⊢; omega
  intro i h1 h2
  simp only [List.getElem_map, List.getElem_modify]
  have hi : i < E.toList.length := by simpa using h1
  have he : ((E.toList.map fun e => (e.key, e.val)))[i]'(by simpa using hi) = (((A ++ (k, v) :: B).map fun p => (I p.1, p.2)))[i]'(by rw [← h]; simpa using hi) := by simp only [h]
  simp only [List.getElem_map] at he
  by_cases hA : A.length = i
  · subst hA
    rw [if_pos rfl]
    simp
  · rw [if_neg hA, he]
    rcases Nat.lt_or_ge i A.length with hlt | hge
    · rw [List.getElem_append_left hlt, List.getElem_append_left hlt]
    · rw [List.getElem_append_right hge, List.getElem_append_right hge]
      obtain ⟨j, hj⟩ : ∃ j, i - A.length = j + 1 := ⟨i - A.length - 1, by omega⟩
      simp only [hj, List.getElem_cons_succ]
theorem ents_push {A : List (Int × Value)} {k : Int} {v' : Value} {E : Array MapEntry} {c : Nat} (h : EntsL A E.toList) : EntsL (A ++ [(k, v')]) (E.push { key := I k, val := v', born := c }).toList := by
  unfold EntsL at h ⊢
  simp [h]
theorem run_mapUpdate {w : World} {E : Array MapEntry} {clk : Nat} {es es' : List (Int × Value)} (hT : P.underlying T = some (.map Tk Te)) (hk : P.underlying Tk = some (.int .i64)) (h1 : w.heap[b]? = some (.map E clk)) (h2 : EntsL es E.toList)
    (h3 : (∃ A v B, es = A ++ (k, v) :: B ∧ (∀ p ∈ A, p.1 ≠ k) ∧ es' = A ++ (k, v') :: B) ∨ ((∀ p ∈ es, p.1 ≠ k) ∧ es' = es ++ [(k, v')])) :
    ∃ E' clk', (Instr.mapUpdate T (.map (some b)) (I k) v').run P w = .ok () (World.put w b (.map E' clk')) ∧ EntsL es' E'.toList := by
  have e1 := run_getMap (P := P) h1
  have e2 := run_checkKey (P := P) (w := w) (k := k) (e := false) hk
  have e3 := run_findKey (P := P) (w := w) (k := k) hk h2
  rcases h3 with ⟨A, v, B, rfl, hA, rfl⟩ | ⟨hn, rfl⟩
  · rw [vfind_some hA] at e3
    refine ⟨_, clk, ?_, ents_set (v' := v') h2⟩
    have hkey : ((E[A.length]?).map (·.key)).getD (I k) = I k := by
      have hl : A.length < E.toList.length := by
        have := congrArg List.length h2
        simp at this ⊢; omega
      have he : ((E.toList.map fun e => (e.key, e.val)))[A.length]'(by simpa using hl) = (((A ++ (k, v) :: B).map fun p => (I p.1, p.2)))[A.length]'(by simp) := by
        have h2' : E.toList.map (fun e => (e.key, e.val)) = (A ++ (k, v) :: B).map (fun p => (I p.1, p.2)) := h2
        simp only [h2']
      simp only [List.getElem_map, List.getElem_append_right (Nat.le_refl _), Nat.sub_self, List.getElem_cons_zero, Prod.mk.injEq] at he
      have hs : A.length < E.size := by simpa using hl
      rw [Array.getElem?_eq_getElem hs]
      simpa using he.1
    have hstay : (Instr.keyThatStays (I k) (I k)).run P w = .ok (I k) w := by
      have : Instr.sameBits 10000 (I k) (I k) = true := by
        show Instr.sameBits (9999 + 1) (.int .i64 k) (.int .i64 k) = true
        unfold Instr.sameBits; simp
      simp only [Instr.keyThatStays, this, if_true, Sem.run_pure]
    simp only [Nat.zero_add] at e3
    simp only [Instr.mapUpdate, underlying, Sem.run_bind, run_program, Result.andThen_ok, hT, Sem.run_pure, e1, e2, e3, hkey, hstay, run_setMap h1]
  · rw [vfind_none hn] at e3
    refine ⟨_, clk + 1, ?_, ents_push (v' := v') (c := clk) h2⟩
    simp only [Instr.mapUpdate, underlying, Sem.run_bind, run_program, Result.andThen_ok, hT, Sem.run_pure, e1, e2, e3, run_setMap h1]
theorem turn_mp {es es' : List (Int × Value)} {E' : Array MapEntry} {clk' : Nat} (Hh : Hp S0 σ0 σ (Ch.mp lo b es :: R)) (h2 : EntsL es' E'.toList) :
    Hp S0 σ0 (σ.put b (.map E' clk')) (Ch.mp lo b es' :: R) ∧ Md (fun i => i = b) σ (σ.put b (.map E' clk')) := by
  obtain ⟨⟨E, clk, h1, _⟩, h3, h4⟩ := Hh.head
  have hb := lt_of_block h1
  have m : Md (fun i => i = b) σ (σ.put b (.map E' clk')) := (St.put_mod h3).md.mono fun i hi => by cases hi; rfl
  exact ⟨Hp.frame1 (A' := [Ch.mp lo b es']) Hh (Hp.one (m.mono fun i hi => .inl hi) ⟨⟨E', clk', World.put_at _ hb, h2⟩, h3, h4⟩ (fun i hi _ => .inl hi)), m⟩
theorem MpH.put (hK : MpH lo el b m k v K) (v' : Value) (ys : List α) : ∃ K2, Mp lo el b (mput m k ys) K2 ∧ ∀ {P : Program} {n : Nat} {ρ : Nat → Value} {dst : Option Nat} {ty T Tk Te : TypeId} {pos : String} {af : Array Edge} {gd : Option (Nat × Bool)} {x y z : Operand} {S0 : BS} {σ0 σ : St} {R : List Ch},
    Hp S0 σ0 σ (Ch.big K :: Ch.own lo el v' ys :: R) → P.underlying T = some (.map Tk Te) → P.underlying Tk = some (.int .i64) → ev n ρ x = .map (some b) → ev n ρ y = I k → ev n ρ z = v' →
    ExS P σ n ρ ⟨dst, .mapUpdate T x y z, ty, pos, af, gd⟩ fun σ' => Hp S0 σ0 σ' (Ch.big K2 :: R) ∧ Md (fun i => i = b) σ σ' := by
  have swap : ∀ {S0 : BS} {σ0 σ : St} {c d : Ch} {R : List Ch}, Hp S0 σ0 σ (c :: d :: R) → Hp S0 σ0 σ (d :: c :: R) := fun H => H.front (i := 1) rfl
  rcases hK.ex with ⟨A, xs, B, hA, rfl, rfl⟩ | ⟨ps, hps, rfl, rfl, rfl⟩
  · refine ⟨_, ⟨⟨A ++ (k, v', ys) :: B, mput_some hA, rfl⟩⟩, ?_⟩
    intro P n ρ dst ty T Tk Te pos af gd x y z S0 σ0 σ R H hT hk hx hy hz
    have H1 := H.unbig
    obtain ⟨⟨E, clk, h1, h2⟩, h3, h4⟩ := H1.head
    obtain ⟨E', clk', hr, h5⟩ := run_mapUpdate (P := P) (v' := v') (k := k) (es' := (A ++ (k, v', ys) :: B).map pmE) hT hk h1 h2 (.inl ⟨A.map pmE, v, B.map pmE, by rw [List.map_append]; rfl, pmE_ne hA, by rw [List.map_append]; rfl⟩)
    obtain ⟨H2, m2⟩ := turn_mp (clk' := clk') H1 h5
    refine ⟨σ.put b (.map E' clk'), ?_, ?_, m2⟩
    · simp [RunS, execOp, hx, hy, hz, hr, St.put]
    · rw [List.map_append (f := pmC lo el)] at H2
      have H3 := swap H2.tail
      have H4 := Hp.bigPut (A := A.map (pmC lo el)) (c := Ch.own lo el v' ys) (B := B.map (pmC lo el)) H3
      have H5 : Hp S0 σ0 (σ.put b (.map E' clk')) (Ch.mp lo b ((A ++ (k, v', ys) :: B).map pmE) :: Ch.big (A.map (pmC lo el) ++ Ch.own lo el v' ys :: B.map (pmC lo el)) :: R) := by
        refine ⟨H2.md, ⟨H2.all.1, H4.all⟩, ⟨fun i hi hc => ?_, H4.ap⟩, fun i hi => ?_⟩
        · refine H2.ap.1 i hi ?_
          rcases hc with hc | hc
          · rcases cov_append.1 hc with hc | hc | hc
            · exact .inl (cov_append.2 (.inl hc))
            · exact .inr (.inl hc)
            · exact .inl (cov_append.2 (.inr hc))
          · exact .inr (.inr hc)
        · rcases hi with hi | hi
          · exact H2.org i (.inl hi)
          · exact H4.org i hi
      have H6 := H5.bigCons
      rw [List.map_append (f := pmC lo el), List.map_cons (f := pmC lo el)]
      exact H6
  · refine ⟨_, ⟨⟨ps ++ [(k, v', ys)], mput_none hps, rfl⟩⟩, ?_⟩
    intro P n ρ dst ty T Tk Te pos af gd x y z S0 σ0 σ R H hT hk hx hy hz
    have H1 := H.unbig
    obtain ⟨⟨E, clk, h1, h2⟩, h3, h4⟩ := H1.head
    obtain ⟨E', clk', hr, h5⟩ := run_mapUpdate (P := P) (v' := v') (k := k) (es' := (ps ++ [(k, v', ys)]).map pmE) hT hk h1 h2 (.inr ⟨pmE_ne hps, by rw [List.map_append]; rfl⟩)
    obtain ⟨H2, m2⟩ := turn_mp (clk' := clk') H1 h5
    refine ⟨σ.put b (.map E' clk'), ?_, ?_, m2⟩
    · simp [RunS, execOp, hx, hy, hz, hr, St.put]
    · have H3 := swap H2.tail
      have H4 := H3.bigSnoc
      have H5 : Hp S0 σ0 (σ.put b (.map E' clk')) (Ch.mp lo b ((ps ++ [(k, v', ys)]).map pmE) :: Ch.big (ps.map (pmC lo el) ++ [Ch.own lo el v' ys]) :: R) := by
        refine ⟨H2.md, ⟨H2.all.1, H4.all⟩, ⟨fun i hi hc => ?_, H4.ap⟩, fun i hi => ?_⟩
        · refine H2.ap.1 i hi ?_
          rcases hc with hc | hc
          · rcases cov_append.1 hc with hc | hc | hc
            · exact .inl hc
            · exact .inr (.inl hc)
            · exact hc.elim
          · exact .inr (.inr hc)
        · rcases hi with hi | hi
          · exact H2.org i (.inl hi)
          · exact H4.org i hi
      have H6 := H5.bigCons
      rw [List.map_append (f := pmC lo el)]
      exact H6

/-! ## A map whose values are published -/
end
end Go.Vs

namespace Go.Vs
open Go

section
variable {α β : Type} [Rp α] [Rp β] [Dl α β] {S0 : BS} {σ0 σ σ' : St} {L K R : List Ch} {lo i : Nat} {v u : Value} {xs : List α} {a : Int} {e : α}

omit [Rp α] [Rp β] [Dl α β] in
theorem gidx_of_map {γ : Type} (f : γ → α) {ps : List γ} {a : Int} {p : γ} (h : gidx ps a = some p) : gidx (ps.map f) a = some (f p) := by
  unfold gidx at *
  split at h
  · rename_i h0
    rw [if_pos h0, List.getElem?_map, h]; rfl
  · cases h
structure DpH (lo : Nat) (v : Value) (xs : List α) (a : Int) (e : α) (u : Value) (K : List Ch) : Prop where
  ex : ∃ A B : List (α × Value), xs = (A ++ (e, u) :: B).map (·.1) ∧ a = (A.length : Int) ∧ K = Ch.own lo lo v ((A ++ (e, u) :: B).map dsh) :: (A ++ B).map (dow lo)
theorem DpH.at {b o : Nat} (hK : DpH lo v xs a e u K) (H : Hp S0 σ0 σ L) (i : Nat) (hn : nth L i = some (Ch.big K)) (hi : Ix v a (Rp.sz α) b o) : At lo σ b o (Dl.sh e u) := by
  have hb : allAs σ K ∧ apart K := H.get hn
  obtain ⟨A, B, rfl, rfl, rfl⟩ := hK.ex
  have hO : Ow σ lo lo v ((A ++ (e, u) :: B).map dsh) := hb.1.1
  have hg : gidx ((A ++ (e, u) :: B).map (dsh (α := α) (β := β))) (A.length : Int) = some (Dl.sh e u) := by
    refine gidx_of_map dsh (p := (e, u)) ?_
    unfold gidx
    rw [if_pos (by omega)]
    simp
  rw [Dl.sz (α := α) (β := β)] at hi
  exact hO.at hg hi
theorem At.val {b o : Nat} {u : Value} (h : At lo σ b o u) : HCell σ.w.heap b o = some u := by
  obtain ⟨cs, ⟨rfl, _⟩, h2⟩ := h
  rw [HCell_eq]; exact h2 0 (by simp)
end

section
variable {α β : Type} [Rp α] [Rp β] [Dl α β] {S0 : BS} {σ0 σ σ' : St} {L K R : List Ch} {lo i : Nat} {v u u' w : Value} {xs : List α} {a : Int} {e : α}
theorem DpH.put (hK : DpH lo v xs a e u K) (e' : α) (u' : Value) : ∃ K2, Dp lo v (xs.set a.toNat e') K2 ∧ ∀ {P : Program} {n : Nat} {ρ : Nat → Value} {dst : Option Nat} {ty T : TypeId} {z : Value} {s bt : Nat} {pos : String} {af : Array Edge} {gd : Option (Nat × Bool)} {x y : Operand} {w : Value} {bl o o' k : Nat} {vs : List Value} {S0 : BS} {σ0 σ : St} {R : List Ch},
    Hp S0 σ0 σ (Ch.big K :: Ch.own lo lo u' (Dl.inn e') :: R) → TI P T z s bt → Ix v a (Rp.sz α) bl o → ev n ρ x = pt bl o' → o' = o + k → ev n ρ y = w → w.cells = vs.toArray → vs.length = s → k + vs.length ≤ Rp.sz α → (∀ t ∈ vs, plain t = true) →
    (∀ {σ : St} cs, Rp.rp lo σ cs (Dl.sh e u) → Rp.rp lo σ (wrL cs k vs) (Dl.sh e' u')) →
    ExS P σ n ρ ⟨dst, .store T x y, ty, pos, af, gd⟩ fun σ' => Hp S0 σ0 σ' (Ch.big K2 :: R) ∧ Md (fun b => blk v = some b) σ σ' := by
  obtain ⟨A, B, rfl, rfl, rfl⟩ := hK.ex
  have hset : ((A ++ (e, u) :: B).map (dsh (α := α) (β := β))).set (A.length : Int).toNat (Dl.sh e' u') = (A ++ (e', u') :: B).map dsh := by
    rw [Int.toNat_natCast, List.map_append, List.set_append_right _ _ (by simp), List.length_map, Nat.sub_self, List.map_cons, List.set_cons_zero, List.map_append]; rfl
  refine ⟨_, ⟨⟨A ++ (e', u') :: B, ?_, rfl⟩⟩, ?_⟩
  · rw [Int.toNat_natCast, List.map_append, List.set_append_right _ _ (by simp), List.length_map, Nat.sub_self, List.map_cons, List.set_cons_zero, List.map_append]; rfl
  intro P n ρ dst ty T z s bt pos af gd x y w bl o o' k vs S0 σ0 σ R H hT hi hx ho hy hw hs hk hp hrp
  have H1 := H.unbig
  have hg : gidx ((A ++ (e, u) :: B).map (dsh (α := α) (β := β))) (A.length : Int) = some (Dl.sh e u) := by
    refine gidx_of_map dsh (p := (e, u)) ?_
    unfold gidx
    rw [if_pos (by omega)]
    simp
  rw [Dl.sz (α := α) (β := β)] at hi hk
  obtain ⟨σ', h1, H2, m⟩ := ex_store_own (P := P) (dst := dst) (ty := ty) (pos := pos) (af := af) (gd := gd) (e' := Dl.sh e' u') H1 (i := 0) rfl hT hg hi hx ho hy hw hs hk hp (hrp (σ := σ))
  refine ⟨σ', h1, ?_, m⟩
  rw [hset] at H2
  have H3 := H2.tail
  rw [List.map_append (f := dow lo)] at H3
  have H4 := Hp.bigPut (A := A.map (dow lo)) (c := Ch.own lo lo u' (Dl.inn e')) (B := B.map (dow lo)) (H3.front (i := 1) rfl)
  have H5 : Hp S0 σ0 σ' (Ch.own lo lo v ((A ++ (e', u') :: B).map dsh) :: Ch.big (A.map (dow lo) ++ Ch.own lo lo u' (Dl.inn e') :: B.map (dow lo)) :: R) := by
    refine ⟨H2.md, ⟨H2.all.1, H4.all⟩, ⟨fun j hj hc => ?_, H4.ap⟩, fun j hj => ?_⟩
    · refine H2.ap.1 j hj ?_
      rcases hc with hc | hc
      · rcases cov_append.1 hc with hc | hc | hc
        · refine .inl ?_; rw [List.map_append]; exact cov_append.2 (.inl hc)
        · exact .inr (.inl hc)
        · refine .inl ?_; rw [List.map_append]; exact cov_append.2 (.inr hc)
      · exact .inr (.inr hc)
    · rcases hj with hj | hj
      · exact H2.org j (.inl hj)
      · exact H4.org j hj
  have H6 := H5.bigCons
  rw [List.map_append (f := dow lo), List.map_cons (f := dow lo)]
  exact H6
end

section
variable {α β : Type} [Rp α] [Rp β] [Dl α β] {S0 : BS} {σ0 σ σ' : St} {L K R : List Ch} {lo i m : Nat} {v : Value} {xs : List α}
theorem Ab.big {K : List Ch} (h : AllAb m K) : Ab m (Ch.big K) := fun _ _ hw hv ha => ⟨allAb_as hw h hv ha.1, ha.2⟩
end

section
variable {α β : Type} [Rp α] [Rp β] [Dl α β] {S0 : BS} {σ0 σ σ' : St} {L K R : List Ch} {lo lo' i m : Nat} {v : Value} {xs : List α}
end

section
variable {α : Type} [Rp α] [Sc α] {S0 : BS} {σ0 σ : St} {L R : List Ch} {lo el : Nat} {v : Value} {xs : List α}
theorem Hp.pubSc (H : Hp S0 σ0 σ L) (i : Nat) (h : pick L i = some (Ch.own lo el v xs, R)) : ∃ σ' : St, σ'.w = σ.w ∧ Hp S0 σ0 σ' (Ch.ro 0 v xs :: R) ∧ Md (fun b => blk v = Option.some b) σ σ' :=
  (H.ownSc i 0 0 h (Nat.zero_le _)).pub 0 rfl (Nat.le_refl _)
end
end Go.Vs

namespace Go.Vs

end Go.Vs

namespace Go.Vs
def iput (m : List (Int × Int)) (k v : Int) : List (Int × Int) := match m with
  | [] => [(k, v)]
  | p :: r => if p.1 = k then (k, v) :: r else p :: iput r k v
theorem i_split (k : Int) : ∀ m : List (Int × Int), (∃ A v B, m = A ++ (k, v) :: B ∧ ∀ q ∈ A, q.1 ≠ k) ∨ ∀ q ∈ m, q.1 ≠ k
  | [] => .inr (by simp)
  | p :: r => by
    by_cases h : p.1 = k
    · refine .inl ⟨[], p.2, r, ?_, by simp⟩
      rw [← h]; rfl
    · rcases i_split k r with ⟨A, v, B, rfl, hA⟩ | hr
      · refine .inl ⟨p :: A, v, B, rfl, fun q hq => ?_⟩
        rcases List.mem_cons.1 hq with rfl | hq
        · exact h
        · exact hA q hq
      · refine .inr fun q hq => ?_
        rcases List.mem_cons.1 hq with rfl | hq
        · exact h
        · exact hr q hq
theorem iput_some {A B : List (Int × Int)} {k v w : Int} (h : ∀ q ∈ A, q.1 ≠ k) : iput (A ++ (k, v) :: B) k w = A ++ (k, w) :: B := by
  induction A with
  | nil => simp [iput]
  | cons p r ih =>
    simp only [List.cons_append]
    unfold iput
    rw [if_neg (h p (by simp)), ih fun q hq => h q (by simp [hq])]
theorem iput_none {m : List (Int × Int)} {k w : Int} (h : ∀ q ∈ m, q.1 ≠ k) : iput m k w = m ++ [(k, w)] := by
  induction m with
  | nil => rfl
  | cons p r ih =>
    unfold iput
    rw [if_neg (h p (by simp)), ih fun q hq => h q (by simp [hq])]; rfl
theorem iput_keys {m : List (Int × Int)} {k w : Int} (h : (m.map (·.1)).Nodup) : ((iput m k w).map (·.1)).Nodup := by
  rcases i_split k m with ⟨A, v, B, rfl, hA⟩ | hn
  · rw [iput_some hA]; simpa using h
  · rw [iput_none hn, List.map_append, List.nodup_append]
    refine ⟨h, by simp, fun a ha b hb => ?_⟩
    obtain ⟨q, hq, rfl⟩ := List.mem_map.1 ha
    simp only [List.map_cons, List.map_nil, List.mem_singleton] at hb
    rw [hb]; exact hn q hq
end Go.Vs

namespace Go.Vs
def bstr (xs : List UInt8) : ByteArray := xs.foldl ByteArray.push ByteArray.empty
def gsix (s : ByteArray) (i : Int) : Option UInt8 := if 0 ≤ i then s[i.toNat]? else none
def gsub (s : ByteArray) (l h : Int) : Option ByteArray := if 0 ≤ l ∧ l ≤ h ∧ h ≤ (s.size : Int) then some (s.extract l.toNat h.toNat) else none
def gcat (a b : ByteArray) : Option ByteArray := if a.size + b.size ≤ 9223372036854775807 then some (a ++ b) else none
end Go.Vs

namespace Go.Vs
def If2 (A B : Type) : Type := Int × A × B
@[reducible] def If2.mk {A B : Type} (k : Int) (a : A) (b : B) : If2 A B := (k, a, b)
end Go.Vs

namespace Go.Vs
open Go

section
variable {α β : Type} [Rp α] [Rp β] [Dl α β] {P : Program} {n : Nat} {ρ : Nat → Value} {S0 : BS} {σ0 σ : St} {R : List Ch} {K : List Ch} {lo : Nat} {v u w z : Value} {xs r : List α} {e : α}
  {dst : Option Nat} {ty T T' E E' : TypeId} {pos : String} {af : Array Edge} {gd : Option (Nat × Bool)} {x y : Operand} {s bt : Nat}
end
end Go.Vs

namespace Go.Vs
open Go

section
variable {S0 : BS} {σ0 σ : St} {K L R : List Ch}
end
section
variable {α β : Type} [Rp α] [Rp β] [Dl α β] {S0 : BS} {σ0 σ : St} {R : List Ch} {lo lo' : Nat}
variable {P : Program} {f : FuncId} {args : List Value} {v0 : Value}
end

section
variable {α β : Type} [Rp α] [Rp β] [Dl α β] {lo lv li : Nat} {P : Program} {f : FuncId} {args : List Value} {v0 vv : Value}
end
end Go.Vs

namespace Go.Vs
open Go

instance : Dl (Int × Int × List Int × Int) (Int × Int × Value × Int) where
  sh x h := (x.1, x.2.1, h, x.2.2.2)
  inn x := x.2.2.1
  sz := rfl
  rp := by
    rintro _ _ _ _ _ _ ⟨_, _, rfl, h1, ⟨_, _, rfl, h2, ⟨_, _, rfl, ⟨rfl, _⟩, h3⟩⟩⟩ h
    exact ⟨_, _, rfl, h1, ⟨_, _, rfl, h2, ⟨_, _, rfl, ⟨_, rfl, h⟩, h3⟩⟩⟩
end Go.Vs

namespace Go.Vs
open Go

theorem ifs2_plain {k : Int} {t1 t2 : TypeId} {a b : Value} : plain (ifs2 k (.iface t1 a) (.iface t2 b)) = true := by
  unfold ifs2; cases k == 1 <;> cases k == 2 <;> rfl
@[reducible] def rp2 (t1 t2 : TypeId) {A B : Type} [Rp A] [Rp B] : Rp (If2 A B) where
  sz := 1
  rp lo σ cs x := ∃ c1 c2, Rp.rp lo σ c1 x.2.1 ∧ Rp.rp lo σ c2 x.2.2 ∧ cs = [ifs2 x.1 (.iface t1 (.agg c1.toArray)) (.iface t2 (.agg c2.toArray))]
  pos := by decide
  len := by rintro _ _ _ _ ⟨c1, c2, _, _, rfl⟩; rfl
  extL := by rintro _ _ _ _ _ hE ⟨c1, c2, h1, h2, e⟩; exact ⟨c1, c2, Rp.extL hE h1, Rp.extL hE h2, e⟩
  low := by rintro _ _ _ _ _ hl ⟨c1, c2, h1, h2, e⟩; exact ⟨c1, c2, Rp.low hl h1, Rp.low hl h2, e⟩
  one := by
    rintro _ _ _ _ ⟨c1, c2, _, _, rfl⟩ c hc
    rw [List.mem_singleton] at hc
    rw [hc]; exact ifs2_plain
end Go.Vs

namespace Go.Vs
open Go

inductive Po (α : Type) where
  | nil
  | to (x : α)
deriving DecidableEq
def Po.get {α : Type} : Po α → Option α
  | .nil => none
  | .to x => some x
def Po.isNil {α : Type} : Po α → Bool
  | .nil => true
  | .to _ => false
inductive Vr (α : Type) where
  | nil
  | node (x : Po α) (l r : Vr α)
deriving DecidableEq
def Vr.get {α : Type} : Vr α → Option (Po α × Vr α × Vr α)
  | .nil => none
  | .node x l r => some (x, l, r)
def Vr.isNil {α : Type} : Vr α → Bool
  | .nil => true
  | .node .. => false
def Vr.mk {α : Type} (p : Po α × Vr α × Vr α) : Vr α := .node p.1 p.2.1 p.2.2
def bsel {β : Type} (e : Int) (x y : β) : β := if e = 0 then x else y
def gsel2 {β : Type} (e : Int) (x y : β) : Option β := if e = 0 then some x else if e = 1 then some y else none
theorem gsel2_some {β : Type} {e : Int} {x y z : β} (h : gsel2 e x y = some z) : (e = 0 ∨ e = 1) ∧ z = bsel e x y := by
  unfold gsel2 at h; unfold bsel
  split at h
  · next h0 => cases h; exact ⟨.inl h0, by rw [if_pos h0]⟩
  · next h0 =>
    split at h
    · next h1 => cases h; exact ⟨.inr h1, by rw [if_neg h0]⟩
    · cases h
class Pv (τ : Type) (ρ : outParam Type) [Rp ρ] where
  pv : Nat → St → Value → τ → Prop
  get : τ → Option ρ
  mk' : ρ → τ
  nil : τ
  isNil : τ → Bool
  out : ∀ {lo : Nat} {σ : St} {v : Value} {t : τ}, pv lo σ v t → (v = .pointer none ∧ isNil t = true ∧ get t = none) ∨ ∃ b o p, v = pt b o ∧ isNil t = false ∧ get t = some p ∧ lo ≤ b ∧ o + Rp.sz ρ ≤ σ.vis b ∧ At lo σ b o p
  into : ∀ {lo : Nat} {σ : St} {b o : Nat} {p : ρ}, lo ≤ b → o + Rp.sz ρ ≤ σ.vis b → (∃ C T, σ.w.heap[b]? = some (.cells C T (0, 0))) → At lo σ b o p → pv lo σ (pt b o) (mk' p)
  none : ∀ {lo : Nat} {σ : St}, pv lo σ (.pointer none) nil
  extL : ∀ {lo : Nat} {σ σ' : St} {v : Value} {t : τ}, ExtL lo σ σ' → pv lo σ v t → pv lo σ' v t
  low : ∀ {lo lo' : Nat} {σ : St} {v : Value} {t : τ}, lo' ≤ lo → pv lo σ v t → pv lo' σ v t

section
variable {α : Type} [Rp α]
theorem At.extL {lo : Nat} {σ σ' : St} {b o : Nat} {x : α} (h : At lo σ b o x) (hb : lo ≤ b) (hs : o + Rp.sz α ≤ σ.vis b) (hE : ExtL lo σ σ') : At lo σ' b o x := by
  obtain ⟨cs, h1, h2⟩ := h
  refine ⟨cs, Rp.extL hE h1, fun j hj => ?_⟩
  have := Rp.len h1
  rw [hE.cell b (o + j) hb (by omega)]
  exact h2 j hj

def PP (lo : Nat) (σ : St) (v : Value) : Po α → Prop
  | .nil => v = .pointer none
  | .to x => ∃ b o, v = pt b o ∧ lo ≤ b ∧ o + Rp.sz α ≤ σ.vis b ∧ At lo σ b o x
instance : Pv (Po α) α where
  pv := PP
  get := Po.get
  mk' := .to
  nil := .nil
  isNil := Po.isNil
  out {_ _ _ t} h := by
    cases t with
    | nil => exact .inl ⟨h, rfl, rfl⟩
    | to x => obtain ⟨b, o, h1, h2, h3, h4⟩ := h; exact .inr ⟨b, o, x, h1, rfl, rfl, h2, h3, h4⟩
  into h1 h2 _ h3 := ⟨_, _, rfl, h1, h2, h3⟩
  none := rfl
  extL {_ _ _ _ t} hE h := by
    cases t with
    | nil => exact h
    | to x => obtain ⟨b, o, h1, h2, h3, h4⟩ := h; exact ⟨b, o, h1, h2, Nat.le_trans h3 (hE.vis b h2), h4.extL h2 h3 hE⟩
  low {_ _ _ _ t} hl h := by
    cases t with
    | nil => exact h
    | to x => obtain ⟨b, o, h1, h2, h3, h4⟩ := h; exact ⟨b, o, h1, Nat.le_trans hl h2, h3, h4.low hl⟩
end

section
variable {τ ρ : Type} [Rp ρ] [Pv τ ρ] {lo el : Nat} {σ σ' : St} {v : Value} {t : τ} {p : ρ} {b o : Nat}
def PV (lo : Nat) (σ : St) (v : Value) (t : τ) : Prop := Pv.pv lo σ v t
theorem PV.nil : PV lo σ (.pointer Option.none) (Pv.nil : τ) := Pv.none
theorem PV.plain (h : PV lo σ v t) : plain v = true := by
  rcases Pv.out h with ⟨h, _⟩ | ⟨b, o, p, h, _⟩ <;> rw [h] <;> rfl
theorem PV.extL (h : PV lo σ v t) (hE : ExtL lo σ σ') : PV lo σ' v t := Pv.extL hE h
theorem PV.low {lo' : Nat} (h : PV lo σ v t) (hl : lo' ≤ lo) : PV lo' σ v t := Pv.low hl h
theorem PV.at' (h : PV lo σ v t) (hp : Pv.get t = some p) : ∃ b o, v = pt b o ∧ lo ≤ b ∧ o + Rp.sz ρ ≤ σ.vis b ∧ At lo σ b o p := by
  rcases Pv.out h with ⟨_, _, h⟩ | ⟨b, o, q, h1, _, h3, h4⟩
  · rw [h] at hp; cases hp
  · rw [h3] at hp; cases hp; exact ⟨b, o, h1, h4⟩
theorem PV.ex (h : PV lo σ v t) (hp : Pv.get t = some p) : ∃ b o, v = pt b o := by
  obtain ⟨b, o, h, _⟩ := h.at' hp
  exact ⟨b, o, h⟩
theorem PV.at (h : PV lo σ v t) (hp : Pv.get t = some p) (hv : v = pt b o) : At lo σ b o p := by
  obtain ⟨b', o', h1, _, _, h2⟩ := h.at' hp
  rw [hv] at h1; cases h1; exact h2
theorem PV.hmd {S : BS} {u : Value} (h : PV lo σ v t) (hp : Pv.get t = some p) (hv : v = pt b o) {k : Nat} (hk : k < Rp.sz ρ)
    (hc : HCell σ.w.heap b (o + k) = some u) (m : Md S σ σ') : HCell σ'.w.heap b (o + k) = some u := by
  obtain ⟨b', o', h1, h2, h3, _⟩ := h.at' hp
  rw [hv] at h1; cases h1
  rw [HCell_eq] at hc ⊢
  exact (m.ext.cell b (o + k) (by omega)).trans hc
end

section
variable {α : Type} [Rp α] {lo el : Nat} {σ σ' : St} {v : Value}
instance : Rp (Po α) where
  sz := 1
  rp lo σ cs t := ∃ v, cs = [v] ∧ PV lo σ v t
  pos := by decide
  len := by rintro _ _ _ _ ⟨v, rfl, _⟩; rfl
  extL := by rintro _ _ _ _ _ hE ⟨v, rfl, h⟩; exact ⟨v, rfl, h.extL hE⟩
  low := by rintro _ _ _ _ _ hl ⟨v, rfl, h⟩; exact ⟨v, rfl, h.low hl⟩
  one := by
    rintro _ _ _ _ ⟨v, rfl, h⟩ c hc
    simp only [List.mem_singleton] at hc
    rw [hc]; exact h.plain
def RV (lo : Nat) (σ : St) : Value → Vr α → Prop
  | v, .nil => v = .pointer none
  | v, .node x l r => ∃ b o vx vl vr, v = pt b o ∧ lo ≤ b ∧ o + 3 ≤ σ.vis b ∧ (∃ C T, σ.w.heap[b]? = some (.cells C T (0, 0))) ∧ PV lo σ vx x ∧ RV lo σ vl l ∧ RV lo σ vr r ∧ ∀ j, (h : j < [vx, vl, vr].length) → σ.cell b (o + j) = some [vx, vl, vr][j]
theorem RV.plain {t : Vr α} (h : RV lo σ v t) : plain v = true := by
  cases t with
  | nil => rw [show v = .pointer none from h]; rfl
  | node x l r => obtain ⟨b, o, vx, vl, vr, rfl, _⟩ := h; rfl
theorem RV.extL (hE : ExtL lo σ σ') : ∀ {t : Vr α} {v : Value}, RV lo σ v t → RV lo σ' v t
  | .nil, _, h => h
  | .node x l r, _, ⟨b, o, vx, vl, vr, h1, h2, h3, h0, h4, h5, h6, h7⟩ => by
    refine ⟨b, o, vx, vl, vr, h1, h2, Nat.le_trans h3 (hE.vis b h2), by rw [hE.block b h2 (by omega)]; exact h0, h4.extL hE, RV.extL hE h5, RV.extL hE h6, fun j hj => ?_⟩
    have hl : [vx, vl, vr].length = 3 := rfl
    rw [hE.cell b _ h2 (by omega)]
    exact h7 j hj
theorem RV.low {lo' : Nat} (hl : lo' ≤ lo) : ∀ {t : Vr α} {v : Value}, RV lo σ v t → RV lo' σ v t
  | .nil, _, h => h
  | .node x l r, _, ⟨b, o, vx, vl, vr, h1, h2, h3, h0, h4, h5, h6, h7⟩ => ⟨b, o, vx, vl, vr, h1, Nat.le_trans hl h2, h3, h0, h4.low hl, RV.low hl h5, RV.low hl h6, h7⟩
instance : Rp (Vr α) where
  sz := 1
  rp lo σ cs t := ∃ v, cs = [v] ∧ RV lo σ v t
  pos := by decide
  len := by rintro _ _ _ _ ⟨v, rfl, _⟩; rfl
  extL := by rintro _ _ _ _ _ hE ⟨v, rfl, h⟩; exact ⟨v, rfl, h.extL hE⟩
  low := by rintro _ _ _ _ _ hl ⟨v, rfl, h⟩; exact ⟨v, rfl, h.low hl⟩
  one := by
    rintro _ _ _ _ ⟨v, rfl, h⟩ c hc
    simp only [List.mem_singleton] at hc
    rw [hc]; exact h.plain
instance : Pv (Vr α) (Po α × Vr α × Vr α) where
  pv := RV
  get := Vr.get
  mk' := Vr.mk
  nil := .nil
  isNil := Vr.isNil
  out {_ _ _ t} h := by
    cases t with
    | nil => exact .inl ⟨h, rfl, rfl⟩
    | node x l r =>
      obtain ⟨b, o, vx, vl, vr, h1, h2, h3, h0, h4, h5, h6, h7⟩ := h
      exact .inr ⟨b, o, (x, l, r), h1, rfl, rfl, h2, h3, [vx, vl, vr], ⟨[vx], [vl, vr], rfl, ⟨vx, rfl, h4⟩, [vl], [vr], rfl, ⟨vl, rfl, h5⟩, ⟨vr, rfl, h6⟩⟩, h7⟩
  into {_ _ _ _ p} h1 h2 h0 h3 := by
    obtain ⟨_, ⟨_, _, rfl, ⟨vx, rfl, h4⟩, _, _, rfl, ⟨vl, rfl, h5⟩, ⟨vr, rfl, h6⟩⟩, h7⟩ := h3
    exact ⟨_, _, vx, vl, vr, rfl, h1, h2, h0, h4, h5, h6, h7⟩
  none := rfl
  extL hE h := RV.extL hE h
  low hl h := RV.low hl h
theorem At.vr {b o : Nat} {t : Vr α} (h : At el σ b o t) : ∃ v, HCell σ.w.heap b o = some v ∧ PV el σ v t := by
  obtain ⟨cs, ⟨v, rfl, hR⟩, h2⟩ := h
  exact ⟨v, by rw [HCell_eq]; exact h2 0 (by simp), hR⟩
end

section
variable {τ ρ : Type} [Rp ρ] [Pv τ ρ] {S0 : BS} {σ0 σ : St} {L R : List Ch} {el lo b o i : Nat} {v : Value} {t t' x y z : τ} {cs pre suf : List Value} {e : Int}
def Ch.pv (el : Nat) (v : Value) (t : τ) : Ch where
  dup := true
  fp _ := False
  as σ := PV el σ v t
  hdup _ _ := id
  hlt _ _ h := h.elim
  hst m _ h := PV.extL h (m.ext.extL el)
theorem Hp.pv (H : Hp S0 σ0 σ L) (i : Nat) (h : nth L i = some (Ch.pv el v t)) : PV el σ v t := H.get h
theorem PV.bsel {a0 a1 : Option Addr} (h0 : PV el σ (.pointer a0) x) (h1 : PV el σ (.pointer a1) y) : PV el σ (.pointer (Go.Vs.bsel e a0 a1)) (Go.Vs.bsel e x y) := by
  unfold Go.Vs.bsel; split
  · exact h0
  · exact h1
theorem PV.sel {a0 a1 : Option Addr} (h0 : PV el σ (.pointer a0) x) (h1 : PV el σ (.pointer a1) y) (hx : gsel2 e x y = some z) : PV el σ (.pointer (Go.Vs.bsel e a0 a1)) z := by
  rw [(gsel2_some hx).2]; exact h0.bsel h1
end

section
variable {τ ρ : Type} [Rp ρ] [Pv τ ρ] {P : Program} {H : Array Obj} {n lo : Nat} {ρ' : Nat → Value} {d : Option Nat} {ty T T' : TypeId} {pos : String} {af : Array Edge} {gd : Option (Nat × Bool)} {x y : Operand} {v : Value} {t : τ} {σ : St}
end

/-! ## Two pointers that are compared -/
class Rf (α : Type) [Rp α] : Prop where
  fn : ∀ {lo lo' : Nat} {σ : St} {cs : List Value} {x y : α}, Rp.rp lo σ cs x → Rp.rp lo' σ cs y → x = y
instance : Rf Int := ⟨fun {_ _ _ _ _ _} h k => by have h : _ = [I _] := h; have k : _ = [I _] := k; rw [h] at k; cases k; rfl⟩
section
variable {α β : Type} [Rp α] [Rp β]
theorem At.fn [Rf α] {lo lo' : Nat} {σ : St} {b o : Nat} {x y : α} (h : At lo σ b o x) (k : At lo' σ b o y) : x = y := by
  obtain ⟨cs, h1, h2⟩ := h
  obtain ⟨cs', k1, k2⟩ := k
  have e : cs = cs' := by
    refine List.ext_getElem ((Rp.len h1).trans (Rp.len k1).symm) fun j hj hj' => ?_
    exact Option.some.inj ((h2 j hj).symm.trans (k2 j hj'))
  subst e
  exact Rf.fn h1 k1
instance [Rf α] [Rf β] : Rf (α × β) := ⟨fun {_ _ _ _ x y} h k => by
  obtain ⟨c1, c2, e, h1, h2⟩ := h
  obtain ⟨d1, d2, e', k1, k2⟩ := k
  obtain ⟨r1, r2⟩ := List.append_inj (e.symm.trans e') ((Rp.len h1).trans (Rp.len k1).symm)
  subst r1 r2
  exact Prod.ext (Rf.fn h1 k1) (Rf.fn h2 k2)⟩
theorem RS.fn [Rf α] {el el' : Nat} {σ : St} {v : Value} {xs ys : List α} (h : RS el σ v xs) (k : RS el' σ v ys) : xs = ys := by
  rcases h with ⟨⟨ad, c, rfl⟩, rfl⟩ | ⟨b, o, c, rfl, _, _, _, h⟩
  · rcases k with ⟨_, rfl⟩ | ⟨b', o', c', e, _⟩
    · rfl
    · injection e with _ e2 _
      exact (List.eq_nil_of_length_eq_zero e2.symm).symm
  · rcases k with ⟨⟨ad, c', e⟩, rfl⟩ | ⟨b', o', c', e, _, _, _, k⟩
    · injection e with _ e2 _
      exact List.eq_nil_of_length_eq_zero e2
    · injection e with e1 e2 _
      injection e1 with e1
      injection e1 with e3 e4 _
      subst e3 e4
      exact List.ext_getElem e2 fun i hi hi' => (h i hi).fn (k i hi')
instance [Rf α] : Rf (List α) := ⟨fun {_ _ _ _ x y} h k => by
  obtain ⟨v, rfl, h⟩ := h
  obtain ⟨v', e, k⟩ := k
  injection e with e
  subst e
  exact RS.fn h k⟩
theorem PV.fnPo [Rf α] {lo lo' : Nat} {σ : St} {v : Value} {x y : Po α} (h : PV lo σ v x) (k : PV lo' σ v y) : x = y := by
  cases x with
  | nil =>
    have h : v = .pointer none := h
    cases y with
    | nil => rfl
    | to y => obtain ⟨b, o, e, _⟩ := (k : PP lo' σ v (.to y)); rw [h] at e; cases e
  | to x =>
    obtain ⟨b, o, e, _, _, h⟩ := (h : PP lo σ v (.to x))
    cases y with
    | nil => have k : v = .pointer none := k; rw [k] at e; cases e
    | to y =>
      obtain ⟨b', o', e', _, _, k⟩ := (k : PP lo' σ v (.to y))
      rw [e] at e'; cases e'
      rw [h.fn k]
theorem RV.fn [Rf α] {lo lo' : Nat} {σ : St} : ∀ {v : Value} {x y : Vr α}, RV lo σ v x → RV lo' σ v y → x = y
  | v, .nil, y, h, k => by
    have h : v = .pointer none := h
    cases y with
    | nil => rfl
    | node y l r => obtain ⟨b, o, vx, vl, vr, e, _⟩ := k; rw [h] at e; cases e
  | v, .node x l r, y, h, k => by
    obtain ⟨b, o, vx, vl, vr, e, _, _, _, h1, h2, h3, h4⟩ := h
    cases y with
    | nil => have k : v = .pointer none := k; rw [k] at e; cases e
    | node y l' r' =>
      obtain ⟨b', o', wx, wl, wr, e', _, _, _, k1, k2, k3, k4⟩ := k
      rw [e] at e'; cases e'
      have q : ∀ j, (hj : j < 3) → [vx, vl, vr][j]'hj = [wx, wl, wr][j]'hj := fun j hj => Option.some.inj ((h4 j hj).symm.trans (k4 j hj))
      obtain rfl : vx = wx := q 0 (by omega)
      obtain rfl : vl = wl := q 1 (by omega)
      obtain rfl : vr = wr := q 2 (by omega)
      rw [h1.fnPo k1, RV.fn h2 k2, RV.fn h3 k3]
def peq (a b : Option Addr) : Bool := decide (a = b)
theorem PV.same [Rf α] {lo lo' : Nat} {σ : St} {a b : Option Addr} {x y : Vr α} (hb : peq a b = true) (h : PV lo σ (.pointer a) x) (k : PV lo' σ (.pointer b) y) : x = y := by
  obtain rfl : a = b := of_decide_eq_true hb
  exact RV.fn h k
section
variable {P : Program} {n lo lo' : Nat} {ρ' : Nat → Value} {d : Option Nat} {ty T T' E : TypeId} {pos : String} {af : Array Edge} {gd : Option (Nat × Bool)} {x y : Operand} {t t' : Vr α} {σ : St} {a a' : Option Addr} {z : Value} {s bt : Nat}
theorem RV.spot {p : Addr} (h : RV lo σ (.pointer (some p)) t) : p = ⟨p.block, p.off, none⟩ := by
  cases t with
  | nil => have h : Value.pointer (some p) = .pointer none := h; cases h
  | node => obtain ⟨b', o', vx, vl, vr, e, _⟩ := h; injection e with e; injection e with e; rw [e]
end
end
end Go.Vs

namespace Go.Vs
open Go

section
variable {P : Program} {n : Nat} {ρ : Nat → Value} {dst : Option Nat} {ty S E D : TypeId} {pos : String} {af : Array Edge} {gd : Option (Nat × Bool)} {x y : Operand} {v : Value} {σ : St} {el : Nat} {xs : List UInt8} {H0 : Array Obj}

theorem run_push (w : World) : ∀ (cs : List UInt8) (s : ByteArray), (forIn (cs.map fun c => Value.int .u8 (c.toNat : Int)) s (fun c s => (match c with | .int .u8 n => pure (ForInStep.yield (s.push (UInt8.ofNat n.toNat))) | _ => do
      stuck "bytesToString: byte expected"
      pure (ForInStep.yield s) : Sem (ForInStep ByteArray)))).run P w = .ok (cs.foldl ByteArray.push s) w := by
  intro cs
  induction cs with
  | nil => intro s; simp
  | cons c cs ih =>
    intro s
    simp only [List.map_cons, List.forIn_cons, Sem.run_bind, Sem.run_pure, Result.andThen_ok, List.foldl_cons]
    have : UInt8.ofNat ((c.toNat : Int)).toNat = c := by simp
    rw [this]
    exact ih _
theorem cell_of {C : List Value} {b o : Nat} (h : Rd el σ v xs) : (∃ ad c, v = .slice ad 0 c ∧ xs = []) ∨ ∃ b o c, v = .slice (some ⟨b, o, none⟩) xs.length c ∧ ∀ j, (hj : j < (xs.map fun c => Value.int .u8 (c.toNat : Int)).length) → σ.w.cell? ⟨b, o + (0 + j), none⟩ = some (xs.map fun c => Value.int .u8 (c.toNat : Int))[j] := by
  rcases h with ⟨⟨ad, c, h1⟩, h2⟩ | ⟨b, o, c, h1, h2⟩
  · exact .inl ⟨ad, c, h1, h2⟩
  · refine .inr ⟨b, o, c, h1, fun j hj => ?_⟩
    have hj' : j < xs.length := by simpa using hj
    obtain ⟨cs, hr, _, hc⟩ := (h2 j hj').cells
    have hr' : cs = [Value.int .u8 (xs[j].toNat : Int)] := hr
    subst hr'
    have := hc 0 (by simp)
    rw [HCell_eq] at this
    have e : o + j * Rp.sz UInt8 + 0 = o + (0 + j) := by show o + j * 1 + 0 = _; omega
    rw [e] at this
    simpa using this
theorem run_b2s (h : Rd el σ v xs) {w : World} (hw : w.heap = σ.w.heap) : (Conv.bytesToString v).run P w = .ok (.string (bstr xs)) w := by
  rcases cell_of (C := []) (b := 0) (o := 0) h with ⟨ad, c, rfl, rfl⟩ | ⟨b, o, c, rfl, hc⟩
  · cases ad with
    | none => rfl
    | some a => simp [Conv.bytesToString, loadCells, loadCellsFrom, bstr]
  · have hc' : ∀ j, (hj : j < (xs.map fun c => Value.int .u8 (c.toNat : Int)).length) → w.cell? ⟨b, o + (0 + j), none⟩ = some (xs.map fun c => Value.int .u8 (c.toNat : Int))[j] := fun j hj => by
      rw [← HCell_eq, hw, HCell_eq]; exact hc j hj
    have hl := run_loadCellsFrom (P := P) w b o xs.length 0 (xs.map fun c => Value.int .u8 (c.toNat : Int)) [] (by simp) hc'
    have hp := run_push (P := P) w xs ByteArray.empty
    unfold Conv.bytesToString loadCells
    simp only [Sem.run_bind, hl, Result.andThen_ok, List.nil_append]
    rw [← Array.forIn_toList]
    refine Eq.trans (congrArg (fun r => Result.andThen r _) hp) ?_
    simp [bstr]
theorem rv_b2s (hS : P.underlying S = some (.slice E)) (hE : P.underlying E = some (.int .u8)) (hD : P.underlying D = some .string) (hr : Rd el σ v xs) (hx : ev n ρ x = v) : RunV P σ.w.heap n ρ ⟨dst, .convert S D x, ty, pos, af, gd⟩ (.string (bstr xs)) := fun w hw => by
  have hb := run_b2s (P := P) hr hw
  obtain ⟨ad, c, hv⟩ := hr.isSl
  subst hv
  simp [execOp, hx, convert, underlying, hS, hD, hE, hb]
theorem rv_seql {a b : ByteArray} (hx : ev n ρ x = .string a) (hy : ev n ρ y = .string b) : RunV P H0 n ρ ⟨dst, .binOp .eql S x y D, ty, pos, af, gd⟩ (B (a.toList == b.toList)) := fun w hw => by
  simp [execOp, hx, hy, eqGuard, binOp, Op.stringOp]
theorem rv_sneq {a b : ByteArray} (hx : ev n ρ x = .string a) (hy : ev n ρ y = .string b) : RunV P H0 n ρ ⟨dst, .binOp .neq S x y D, ty, pos, af, gd⟩ (B (!(a.toList == b.toList))) := fun w hw => by
  simp [execOp, hx, hy, eqGuard, binOp, Op.stringOp]
end
end Go.Vs

namespace Go.Vs
open Go
section
variable {P : Program} {H0 : Array Obj} {n : Nat} {ρ : Nat → Value} {dst : Option Nat} {ty S T D : TypeId} {pos : String} {af : Array Edge} {gd : Option (Nat × Bool)} {x y : Operand} {s t r : ByteArray}
theorem rv_slen (hT : P.underlying T = some .string) (hx : ev n ρ x = .string s) : RunV P H0 n ρ ⟨dst, .call ⟨.builtin .len, #[x], #[T]⟩, ty, pos, af, gd⟩ (I (s.size : Int)) := fun w _ => by
  simp [execOp, resolve, hx, invoke, builtin, Builtin.len_, underlying, hT, goInt]
theorem rv_scat (hx : ev n ρ x = .string s) (hy : ev n ρ y = .string t) (hg : gcat s t = some r) : RunV P H0 n ρ ⟨dst, .binOp .add S x y D, ty, pos, af, gd⟩ (.string r) := fun w hw => by
  unfold gcat at hg
  split at hg
  · rename_i h
    have hr := Option.some.inj hg
    have h' : ¬ ((s.size + t.size : Nat) : Int) > IntKind.i64.max := by
      have : IntKind.i64.max = 9223372036854775807 := by decide
      omega
    subst hr
    simp only [execOp, hx, hy, Act.eval]
    simp [execOp, hx, hy, eqGuard, binOp, Op.stringOp, h']
    omega
  · cases hg
theorem rv_six {k : IntKind} {a : Int} {e : UInt8} (hT : P.underlying T = some .string) (hx : ev n ρ x = .string s) (hy : ev n ρ y = .int k a) (hg : gsix s a = some e) :
    RunV P H0 n ρ ⟨dst, .index T x y, ty, pos, af, gd⟩ (.int .u8 (e.toNat : Int)) := fun w _ => by
  unfold gsix at hg
  split at hg
  · rename_i h0
    simp [execOp, hx, hy, Instr.index, asIntOf, underlying, hT, h0, hg]
  · cases hg
theorem rv_ssub {l h : Int} {q1 q2 : Operand} (hT : P.underlying T = some .string) (hx : ev n ρ x = .string s) (h1 : ev n ρ q1 = I l) (h2 : ev n ρ q2 = I h) (hg : gsub s l h = some r) :
    RunV P H0 n ρ ⟨dst, .slice T x (some q1) (some q2) none, ty, pos, af, gd⟩ (.string r) := fun w _ => by
  unfold gsub at hg
  split at hg
  · rename_i hc
    have hr := Option.some.inj hg
    subst hr
    have e2 : (h.toNat : Int) = h := Int.toNat_of_nonneg (by omega)
    simp [execOp, hx, h1, h2, Instr.sliceAt, Instr.slice, underlying, hT, Instr.sliceBounds, Instr.sliceBound, asIntOf, hc.1, hc.2.1, hc.2.2, show 0 ≤ h by omega, e2]
  · cases hg
theorem rv_ssubL {l : Int} {q1 : Operand} (hT : P.underlying T = some .string) (hx : ev n ρ x = .string s) (h1 : ev n ρ q1 = I l) (hg : gsub s l (s.size : Int) = some r) :
    RunV P H0 n ρ ⟨dst, .slice T x (some q1) none none, ty, pos, af, gd⟩ (.string r) := fun w _ => by
  unfold gsub at hg
  split at hg
  · rename_i hc
    have hr := Option.some.inj hg
    subst hr
    simp [execOp, hx, h1, Instr.sliceAt, Instr.slice, underlying, hT, Instr.sliceBounds, Instr.sliceBound, asIntOf, hc.1, hc.2.1]
  · cases hg
end
end Go.Vs

namespace Go.Vs
open Go

structure MiOk (E : Array MapEntry) (clk : Nat) (m : List (Int × Int)) : Prop where
  ents : EntsL (m.map fun p => (p.1, I p.2)) E.toList
  keys : (m.map (·.1)).Nodup
  born : ∀ e ∈ E.toList, e.born < clk
  nd : (E.toList.map (·.born)).Nodup
def MiO (O : Obj) (m : List (Int × Int)) : Prop := ∃ E clk, O = .map E clk ∧ MiOk E clk m

def Ch.ob (lo b : Nat) (O : Obj) : Ch where
  dup := false
  fp i := i = b
  as σ := σ.w.heap[b]? = some O ∧ σ.vis b = 0 ∧ lo ≤ b
  hdup h := by cases h
  hlt h i e := by subst e; exact lt_of_block h.1
  hst m hd h := by
    obtain ⟨h1, h3, h4⟩ := h
    have hb := lt_of_block h1
    have hS := hd _ rfl
    exact ⟨(m.block _ hb hS).trans h1, (m.vis _ hb hS).trans h3, h4⟩

section
variable {S0 : BS} {σ0 σ σ' : St} {L K R : List Ch} {lo lo' el b r i : Nat} {m : List (Int × Int)} {k : Int} {v : Value} {O O' : Obj}
theorem Hp.ob (H : Hp S0 σ0 σ L) (i : Nat) (h : nth L i = some (Ch.ob lo b O)) : σ.w.heap[b]? = some O ∧ σ.vis b = 0 ∧ lo ≤ b := H.get h
theorem turn_ob (O' : Obj) (Hh : Hp S0 σ0 σ (Ch.ob lo b O :: R)) : Hp S0 σ0 (σ.put b O') (Ch.ob lo b O' :: R) ∧ Md (fun i => i = b) σ (σ.put b O') := by
  obtain ⟨h1, h3, h4⟩ := Hh.head
  have hb := lt_of_block h1
  have m : Md (fun i => i = b) σ (σ.put b O') := (St.put_mod h3).md.mono fun i hi => by cases hi; rfl
  exact ⟨Hp.frame1 (A' := [Ch.ob lo b O']) Hh (Hp.one (m.mono fun i hi => .inl hi) ⟨World.put_at _ hb, h3, h4⟩ (fun i hi _ => .inl hi)), m⟩
end

/-! ## Operations -/
section
variable {P : Program} {n : Nat} {ρ : Nat → Value} {dst : Option Nat} {ty T Tk Te : TypeId} {pos : String} {af : Array Edge} {gd : Option (Nat × Bool)} {x y z : Operand} {v' : Value} {b s bt lo lo' el r : Nat} {k : Int} {H : Array Obj}
variable {S0 : BS} {σ0 σ σ' : St} {L K R : List Ch} {m : List (Int × Int)} {O : Obj}
theorem run_updOld {w : World} {E : Array MapEntry} {clk : Nat} {A B : List (Int × Value)} {v : Value} (hT : P.underlying T = some (.map Tk Te)) (hk : P.underlying Tk = some (.int .i64)) (h1 : w.heap[b]? = some (.map E clk))
    (h2 : EntsL (A ++ (k, v) :: B) E.toList) (hA : ∀ p ∈ A, p.1 ≠ k) :
    (Instr.mapUpdate T (.map (some b)) (I k) v').run P w = .ok () (World.put w b (.map (E.modify A.length fun e => { e with key := I k, val := v' }) clk)) := by
  have e1 := run_getMap (P := P) h1
  have e2 := run_checkKey (P := P) (w := w) (k := k) (e := false) hk
  have e3 := run_findKey (P := P) (w := w) (k := k) hk h2
  rw [vfind_some hA] at e3
  have hkey : ((E[A.length]?).map (·.key)).getD (I k) = I k := by
    have hl : A.length < E.toList.length := by
      have := congrArg List.length h2
      simp at this ⊢; omega
    have he : ((E.toList.map fun e => (e.key, e.val)))[A.length]'(by simpa using hl) = (((A ++ (k, v) :: B).map fun p => (I p.1, p.2)))[A.length]'(by simp) := by
      have h2' : E.toList.map (fun e => (e.key, e.val)) = (A ++ (k, v) :: B).map (fun p => (I p.1, p.2)) := h2
      simp only [h2']
    simp only [List.getElem_map, List.getElem_append_right (Nat.le_refl _), Nat.sub_self, List.getElem_cons_zero, Prod.mk.injEq] at he
    have hs : A.length < E.size := by simpa using hl
    rw [Array.getElem?_eq_getElem hs]
    simpa using he.1
  have hstay : (Instr.keyThatStays (I k) (I k)).run P w = .ok (I k) w := by
    have : Instr.sameBits 10000 (I k) (I k) = true := by
      show Instr.sameBits (9999 + 1) (.int .i64 k) (.int .i64 k) = true
      unfold Instr.sameBits; simp
    simp only [Instr.keyThatStays, this, if_true, Sem.run_pure]
  simp only [Nat.zero_add] at e3
  simp only [Instr.mapUpdate, underlying, Sem.run_bind, run_program, Result.andThen_ok, hT, Sem.run_pure, e1, e2, e3, hkey, hstay, run_setMap h1]
theorem run_updNew {w : World} {E : Array MapEntry} {clk : Nat} {es : List (Int × Value)} (hT : P.underlying T = some (.map Tk Te)) (hk : P.underlying Tk = some (.int .i64)) (h1 : w.heap[b]? = some (.map E clk)) (h2 : EntsL es E.toList) (hn : ∀ p ∈ es, p.1 ≠ k) :
    (Instr.mapUpdate T (.map (some b)) (I k) v').run P w = .ok () (World.put w b (.map (E.push { key := I k, val := v', born := clk }) (clk + 1))) := by
  have e1 := run_getMap (P := P) h1
  have e2 := run_checkKey (P := P) (w := w) (k := k) (e := false) hk
  have e3 := run_findKey (P := P) (w := w) (k := k) hk h2
  rw [vfind_none hn] at e3
  simp only [Instr.mapUpdate, underlying, Sem.run_bind, run_program, Result.andThen_ok, hT, Sem.run_pure, e1, e2, e3, run_setMap h1]
theorem born_modify {E : Array MapEntry} {i : Nat} {u v : Value} : (E.modify i fun e => { e with key := u, val := v }).toList.map (·.born) = E.toList.map (·.born) := by
  rw [Array.toList_modify]
  apply List.ext_getElem (by simp)
  intro j h1 h2
  simp only [List.getElem_map, List.getElem_modify]
  split <;> rfl
theorem MiO.put (hO : MiO O m) (k w : Int) : ∃ O', MiO O' (iput m k w) ∧ ∀ {P : Program} {n : Nat} {ρ : Nat → Value} {dst : Option Nat} {ty T Tk Te : TypeId} {pos : String} {af : Array Edge} {gd : Option (Nat × Bool)} {x y z : Operand} {lo b : Nat} {S0 : BS} {σ0 σ : St} {R : List Ch},
    Hp S0 σ0 σ (Ch.ob lo b O :: R) → P.underlying T = some (.map Tk Te) → P.underlying Tk = some (.int .i64) → ev n ρ x = .map (some b) → ev n ρ y = I k → ev n ρ z = I w →
    ExS P σ n ρ ⟨dst, .mapUpdate T x y z, ty, pos, af, gd⟩ fun σ' => Hp S0 σ0 σ' (Ch.ob lo b O' :: R) ∧ Md (fun i => i = b) σ σ' := by
  obtain ⟨E, clk, rfl, h⟩ := hO
  rcases i_split k m with ⟨A, v, B, rfl, hA⟩ | hn
  · have hA' : ∀ p ∈ A.map (fun p : Int × Int => (p.1, I p.2)), p.1 ≠ k := by
      intro p hp
      obtain ⟨q, hq, rfl⟩ := List.mem_map.1 hp
      exact hA q hq
    have h2 : EntsL (A.map (fun p : Int × Int => (p.1, I p.2)) ++ (k, I v) :: B.map (fun p : Int × Int => (p.1, I p.2))) E.toList := by
      have := h.ents
      rw [List.map_append, List.map_cons] at this
      exact this
    refine ⟨.map (E.modify (A.map (fun p : Int × Int => (p.1, I p.2))).length fun e => { e with key := I k, val := I w }) clk, ⟨_, _, rfl, ?_, iput_keys h.keys, ?_, ?_⟩, ?_⟩
    · rw [iput_some hA, List.map_append, List.map_cons]
      exact ents_set (v' := I w) h2
    · intro e he
      have : e.born ∈ (E.toList.map (·.born)) := by rw [← born_modify]; exact List.mem_map_of_mem he
      obtain ⟨e', h1, h3⟩ := List.mem_map.1 this
      rw [← h3]; exact h.born e' h1
    · rw [born_modify]; exact h.nd
    · intro P n ρ dst ty T Tk Te pos af gd x y z lo b S0 σ0 σ R H hT hk hx hy hz
      obtain ⟨h1, _, _⟩ := H.head
      have hr := run_updOld (P := P) (v' := I w) hT hk h1 h2 hA'
      obtain ⟨H2, m2⟩ := turn_ob (.map (E.modify (A.map (fun p : Int × Int => (p.1, I p.2))).length fun e => { e with key := I k, val := I w }) clk) H
      exact ⟨_, by simp [RunS, execOp, hx, hy, hz, hr, St.put], H2, m2⟩
  · have hn' : ∀ p ∈ m.map (fun p : Int × Int => (p.1, I p.2)), p.1 ≠ k := by
      intro p hp
      obtain ⟨q, hq, rfl⟩ := List.mem_map.1 hp
      exact hn q hq
    refine ⟨.map (E.push { key := I k, val := I w, born := clk }) (clk + 1), ⟨_, _, rfl, ?_, iput_keys h.keys, ?_, ?_⟩, ?_⟩
    · rw [iput_none hn, List.map_append]
      exact ents_push h.ents
    · intro e he
      rw [Array.toList_push] at he
      rcases List.mem_append.1 he with he | he
      · exact Nat.lt_succ_of_lt (h.born e he)
      · rw [List.mem_singleton.1 he]; exact Nat.lt_succ_self _
    · rw [Array.toList_push, List.map_append, List.nodup_append]
      refine ⟨h.nd, by simp, fun a ha c hc => ?_⟩
      obtain ⟨e, he, rfl⟩ := List.mem_map.1 ha
      simp only [List.map_cons, List.map_nil, List.mem_singleton] at hc
      have := h.born e he
      omega
    · intro P n ρ dst ty T Tk Te pos af gd x y z lo b S0 σ0 σ R H hT hk hx hy hz
      obtain ⟨h1, _, _⟩ := H.head
      have hr := run_updNew (P := P) (v' := I w) hT hk h1 h.ents hn'
      obtain ⟨H2, m2⟩ := turn_ob (.map (E.push { key := I k, val := I w, born := clk }) (clk + 1)) H
      exact ⟨_, by simp [RunS, execOp, hx, hy, hz, hr, St.put], H2, m2⟩
end

/-! ## A variable that holds a map -/
structure MRef where
  b : Nat
instance : Rp MRef where
  sz := 1
  rp _ _ cs x := cs = [.map (some x.b)]
  pos := by decide
  len := by rintro _ _ _ _ rfl; rfl
  extL := fun _ h => h
  low := fun _ h => h
  one := by rintro _ _ _ _ rfl; simp [plain]
theorem Md.exact {σ σ' : St} {b : Nat} {O : Obj} (m : Md (fun i => i = b) σ σ') (h : σ.w.heap[b]? = some O) (hv : σ.vis b = 0) (h' : σ'.w.heap[b]? = some O) (hv' : σ'.vis b = 0) : Md (fun _ => False) σ σ' :=
  ⟨m.os, m.tape, m.output, m.dr, m.loud, m.ext, fun i hi _ => by
    by_cases e : i = b
    · subst e; rw [h, h']
    · exact m.block i hi e, fun i hi _ => by
    by_cases e : i = b
    · subst e; rw [hv, hv']
    · exact m.vis i hi e⟩

/-! ## A range over a map -/
structure ItR (E : Array MapEntry) (seen : Array Nat) (pre : List Int) (S : List MapEntry) : Prop where
  seen : seen.toList = S.map (·.born)
  sub : ∀ e ∈ S, e ∈ E.toList
  nd : (S.map (·.born)).Nodup
  pre : pre.map I = S.map (·.key)
theorem ItR.step {E : Array MapEntry} {seen : Array Nat} {pre : List Int} {S : List MapEntry} (h : ItR E seen pre S) {e : MapEntry} {x : Int} (he : e ∈ (leftOf E seen).toList) (hx : e.key = I x) :
    ItR E (seen.push e.born) (pre ++ [x]) (S ++ [e]) ∧ e ∈ E.toList := by
  unfold leftOf at he
  rw [Array.toList_filter, List.mem_filter] at he
  obtain ⟨h1, h2⟩ := he
  have hn : e.born ∉ S.map (·.born) := by
    rw [← h.seen]
    intro hm
    have : seen.contains e.born = true := by rw [Array.contains_iff_mem]; exact Array.mem_toList_iff.1 hm
    rw [this] at h2; cases h2
  refine ⟨⟨by rw [Array.toList_push, h.seen, List.map_append]; rfl, fun e' he' => ?_, ?_, by rw [List.map_append, List.map_append, h.pre]; simp [hx]⟩, h1⟩
  · rcases List.mem_append.1 he' with he' | he'
    · exact h.sub e' he'
    · rw [List.mem_singleton.1 he']; exact h1
  · rw [List.map_append, List.nodup_append]
    refine ⟨h.nd, by simp, fun a ha c hc => ?_⟩
    simp only [List.map_cons, List.map_nil, List.mem_singleton] at hc
    rw [hc]; intro e2; exact hn (e2 ▸ ha)
theorem map_I_perm {l l' : List Int} (h : (l.map I).Perm (l'.map I)) : l.Perm l' := by
  have := h.map (fun v : Value => match v with | .int _ n => n | _ => 0)
  simpa [List.map_map, Function.comp_def, I] using this
theorem ents_keys {m : List (Int × Int)} {E : List MapEntry} (h : EntsL (m.map fun p => (p.1, I p.2)) E) : E.map (·.key) = (m.map (·.1)).map I := by
  have := congrArg (List.map Prod.fst) (show E.map (fun e => (e.key, e.val)) = (m.map fun p => (p.1, I p.2)).map (fun p => (I p.1, p.2)) from h)
  simpa [List.map_map, Function.comp_def] using this
theorem sub_perm {α : Type} {l m : List α} (hl : l.Nodup) (hm : m.Nodup) (h1 : ∀ x ∈ l, x ∈ m) (h2 : ∀ x ∈ m, x ∈ l) : l.Perm m := (List.perm_ext_iff_of_nodup hl hm).2 fun x => ⟨h1 x, h2 x⟩
theorem ItR.nodup {E : Array MapEntry} {seen : Array Nat} {pre : List Int} {S : List MapEntry} (h : ItR E seen pre S) : S.Nodup := List.Pairwise.of_map (·.born) (fun a b h e => h (congrArg _ e)) h.nd
theorem ItR.done {E : Array MapEntry} {clk : Nat} {m : List (Int × Int)} {seen : Array Nat} {pre : List Int} {S : List MapEntry} (h : ItR E seen pre S) (hm : MiOk E clk m) (h0 : (leftOf E seen).size = 0) : pre.Perm (m.map (·.1)) := by
  have hE : E.toList.Nodup := List.Pairwise.of_map (·.born) (fun a b h e => h (congrArg _ e)) hm.nd
  have hall : ∀ e ∈ E.toList, e ∈ S := by
    intro e he
    have hc : seen.contains e.born = true := by
      cases hq : seen.contains e.born with
      | true => rfl
      | false =>
        have : e ∈ (leftOf E seen).toList := by
          unfold leftOf
          rw [Array.toList_filter, List.mem_filter]
          exact ⟨he, by rw [hq]; rfl⟩
        have h1 : (leftOf E seen).toList = [] := by simpa [Array.toList_eq_nil_iff] using Array.eq_empty_of_size_eq_zero h0
        rw [h1] at this; cases this
    have hb : e.born ∈ S.map (·.born) := by rw [← h.seen]; exact Array.mem_toList_iff.2 (Array.contains_iff_mem.1 hc)
    obtain ⟨e', h1, h2⟩ := List.mem_map.1 hb
    have : e' = e := by
      have hp := hm.nd
      obtain ⟨i, hi, rfl⟩ := List.mem_iff_getElem.1 he
      obtain ⟨j, hj, e3⟩ := List.mem_iff_getElem.1 (h.sub e' h1)
      rw [List.nodup_iff_pairwise_ne, List.pairwise_iff_getElem] at hp
      rcases Nat.lt_trichotomy i j with hlt | rfl | hlt
      · have := hp i j (by simpa using hi) (by simpa using hj) hlt
        simp only [List.getElem_map] at this
        rw [e3] at this; exact absurd h2.symm this
      · exact e3.symm
      · have := hp j i (by simpa using hj) (by simpa using hi) hlt
        simp only [List.getElem_map] at this
        rw [e3] at this; exact absurd h2 this
    rw [← this]; exact h1
  have hp : S.Perm E.toList := sub_perm h.nodup hE h.sub hall
  refine map_I_perm ?_
  rw [h.pre, ← ents_keys hm.ents]
  exact hp.map _
theorem len_subN : ∀ {l m : List Nat}, l.Nodup → (∀ x ∈ l, x ∈ m) → l.length ≤ m.length
  | [], m, _, _ => Nat.zero_le _
  | x :: t, m, hn, hs => by
    obtain ⟨h1, h2⟩ := List.nodup_cons.1 hn
    have hx : x ∈ m := hs x (by simp)
    have := len_subN (m := m.erase x) h2 (fun y hy => (List.mem_erase_of_ne (by rintro rfl; exact h1 hy)).2 (hs y (by simp [hy])))
    rw [List.length_erase_of_mem hx] at this
    have : 0 < m.length := List.length_pos_of_mem hx
    simp only [List.length_cons]; omega
theorem ItR.len {E : Array MapEntry} {clk : Nat} {m : List (Int × Int)} {seen : Array Nat} {pre : List Int} {S : List MapEntry} (h : ItR E seen pre S) (hm : MiOk E clk m) : pre.length ≤ m.length := by
  have h1 : pre.length = S.length := by have := congrArg List.length h.pre; simpa using this
  have h2 : E.toList.length = m.length := by have := congrArg List.length (ents_keys hm.ents); simpa using this
  have h3 := len_subN (m := E.toList.map (·.born)) h.nd (fun b hb => by
    obtain ⟨e, he, rfl⟩ := List.mem_map.1 hb
    exact List.mem_map_of_mem (h.sub e he))
  simp only [List.length_map] at h3
  omega
section
variable {P : Program} {n : Nat} {ρ : Nat → Value} {dst : Option Nat} {ty T Tk Te : TypeId} {pos : String} {af : Array Edge} {gd : Option (Nat × Bool)} {x : Operand} {b lo lo' r since c0 clk : Nat}
variable {S0 : BS} {σ0 σ σ' : St} {L R : List Ch} {E : Array MapEntry} {seen : Array Nat}
end
end Go.Vs

namespace Go.Vs
open Go

theorem ba_beq (a b : ByteArray) : (a == b) = decide (a = b) := by
  cases a with | mk x => cases b with | mk y =>
  show (x == y) = _
  by_cases h : x = y
  · simp [h]
  · have : (x == y) = false := by simpa using h
    simp [this, h]
def sfind : List (ByteArray × Value) → ByteArray → Nat → Option (Nat × Value)
  | [], _, _ => none
  | p :: r, k, i => if k = p.1 then some (i, p.2) else sfind r k (i + 1)
def EntsS (es : List (ByteArray × Value)) (E : List MapEntry) : Prop := E.map (fun e => (e.key, e.val)) = es.map (fun p => (Value.string p.1, p.2))
theorem findNowS_ok (k : ByteArray) : ∀ (E : List MapEntry) (es : List (ByteArray × Value)) (i : Nat), EntsS es E → Instr.findNow .string (.string k) E i = some (sfind es k i)
  | [], [], _, _ => rfl
  | [], _ :: _, _, h => by simp [EntsS] at h
  | _ :: _, [], _, h => by simp [EntsS] at h
  | e :: E, p :: es, i, h => by
    simp only [EntsS, List.map_cons, List.cons.injEq, Prod.mk.injEq] at h
    obtain ⟨⟨h1, h2⟩, h3⟩ := h
    have hs : Instr.sameNow .string (.string k) (.string p.1) = some (k == p.1) := rfl
    unfold Instr.findNow sfind
    rw [h1, hs]
    by_cases hk : k = p.1
    · rw [ba_beq, decide_eq_true hk, if_pos hk, h2]
    · have : (k == p.1) = false := by rw [ba_beq]; exact decide_eq_false hk
      rw [this, if_neg hk]
      exact findNowS_ok k E es (i + 1) h3
theorem run_findKeyS {P : Program} {w : World} {T : TypeId} {k : ByteArray} {E : List MapEntry} {es : List (ByteArray × Value)} (hT : P.underlying T = some .string) (h : EntsS es E) : (Instr.findKey T (.string k) E).run P w = .ok (sfind es k 0) w := by
  simp only [Instr.findKey, underlying, Sem.run_bind, run_program, Result.andThen_ok, hT, Sem.run_pure, findNowS_ok k E es 0 h]
theorem run_checkKeyS {P : Program} {w : World} {T : TypeId} {k : ByteArray} {e : Bool} (hT : P.underlying T = some .string) : (Instr.checkKey e 10000 T (.string k)).run P w = .ok () w := by
  show (Instr.checkKey e (9999 + 1) T (.string k)).run P w = _
  unfold Instr.checkKey
  simp only [underlying, Sem.run_bind, run_program, Result.andThen_ok, hT, Sem.run_pure]
def Ch.cm (lo b : Nat) (es : List (ByteArray × Value)) : Ch where
  dup := false
  fp i := i = b
  as σ := (∃ E clk, σ.w.heap[b]? = some (.map E clk) ∧ EntsS es E.toList) ∧ σ.vis b = 0 ∧ lo ≤ b
  hdup h := by cases h
  hlt h i e := by obtain ⟨⟨E, clk, h1, _⟩, _⟩ := h; subst e; exact lt_of_block h1
  hst m hd h := by
    obtain ⟨⟨E, clk, h1, h2⟩, h3, h4⟩ := h
    have hb := lt_of_block h1
    have hS := hd _ rfl
    exact ⟨⟨E, clk, (m.block _ hb hS).trans h1, h2⟩, (m.vis _ hb hS).trans h3, h4⟩
section
variable {P : Program} {n : Nat} {ρ : Nat → Value} {dst : Option Nat} {ty T Tk Te : TypeId} {pos : String} {af : Array Edge} {gd : Option (Nat × Bool)} {x y z : Operand} {v v' u : Value} {b s bt lo i : Nat} {k : ByteArray} {H : Array Obj}
variable {S0 : BS} {σ0 σ σ' : St} {L K R : List Ch} {es : List (ByteArray × Value)}
theorem Hp.cm (H : Hp S0 σ0 σ L) (i : Nat) (h : nth L i = some (Ch.cm lo b es)) : (∃ E clk, σ.w.heap[b]? = some (.map E clk) ∧ EntsS es E.toList) ∧ σ.vis b = 0 ∧ lo ≤ b := H.get h
theorem ex_makeMapC (H' : Hp S0 σ0 σ L) (hlo : lo ≤ σ0.size) :
    Ex P σ n ρ ⟨dst, .makeMap T none, ty, pos, af, gd⟩ fun v σ' => ∃ b, v = .map (some b) ∧ Hp S0 σ0 σ' (Ch.cm lo b [] :: L) ∧ Md (cov []) σ σ' := by
  have m := St.new_mod σ (.map #[] 0) 0
  refine ⟨_, σ.new (.map #[] 0) 0, ?_, σ.size, rfl, ?_, m.md0⟩
  · simp [RunW, execOp, Instr.makeMap, newObj, Sem.run, St.new, World.mk']
  · exact Hp.frame0 (A' := [Ch.cm lo σ.size []]) H' (Hp.fresh m (Ch.cm lo σ.size []) ⟨⟨#[], 0, St.new_new _ _ _, rfl⟩, St.new_vis _ _ _, Nat.le_trans hlo H'.size⟩ (fun b hb => Nat.le_of_eq (Eq.symm hb)))
theorem sfind_none : ∀ {es : List (ByteArray × Value)} {i : Nat}, (es.all fun p => !(k == p.1)) = true → sfind es k i = none
  | [], _, _ => rfl
  | p :: r, i, h => by
    simp only [List.all_cons, Bool.and_eq_true, Bool.not_eq_true', ba_beq, decide_eq_false_iff_not] at h
    unfold sfind
    rw [if_neg h.1]; exact sfind_none (by simpa only [ba_beq] using h.2)
theorem ex_insertC (Hh : Hp S0 σ0 σ (Ch.cm lo b es :: R)) (hn : (es.all fun p => !(k == p.1)) = true) (hT : P.underlying T = some (.map Tk Te)) (hk : P.underlying Tk = some .string) (hx : ev n ρ x = .map (some b)) (hy : ev n ρ y = .string k) (hz : ev n ρ z = v') :
    ExS P σ n ρ ⟨dst, .insert T x y z, ty, pos, af, gd⟩ fun σ' => Hp S0 σ0 σ' (Ch.cm lo b (es ++ [(k, v')]) :: R) ∧ Md (fun i => i = b) σ σ' := by
  obtain ⟨⟨E, clk, h1, h2⟩, h3, h4⟩ := Hh.head
  have hb := lt_of_block h1
  have e1 := run_getMap (P := P) h1
  have e2 := run_checkKeyS (P := P) (w := σ.w) (k := k) (e := false) hk
  have e3 := run_findKeyS (P := P) (w := σ.w) (k := k) hk h2
  rw [sfind_none hn] at e3
  have hr : (Instr.mapUpdate T (.map (some b)) (.string k) v').run P σ.w = .ok () (World.put σ.w b (.map (E.push { key := .string k, val := v', born := clk }) (clk + 1))) := by
    simp only [Instr.mapUpdate, underlying, Sem.run_bind, run_program, Result.andThen_ok, hT, Sem.run_pure, e1, e2, e3, run_setMap h1]
  have m : Md (fun i => i = b) σ (σ.put b (.map (E.push { key := .string k, val := v', born := clk }) (clk + 1))) := (St.put_mod h3).md.mono fun i hi => by cases hi; rfl
  refine ⟨σ.put b (.map (E.push { key := .string k, val := v', born := clk }) (clk + 1)), by simp [RunS, execOp, hx, hy, hz, hr, St.put], ?_, m⟩
  refine Hp.frame1 (A' := [Ch.cm lo b (es ++ [(k, v')])]) Hh (Hp.one (m.mono fun i hi => .inl hi) ⟨⟨_, _, World.put_at _ hb, ?_⟩, h3, h4⟩ (fun i hi _ => .inl hi))
  unfold EntsS at h2 ⊢
  rw [Array.toList_push, List.map_append, h2, List.map_append]; rfl
theorem rv_lookupC (hT : P.underlying T = some (.map Tk Te)) (hk : P.underlying Tk = some .string) {z' : Value} (hz : TI P Te z' s bt) (hx : ev n ρ x = .map (some b)) (hy : ev n ρ y = .string k) (h : ∃ E clk, H[b]? = some (.map E clk) ∧ EntsS es E.toList)
    (hf : (sfind es k 0 = some (i, v) ∧ u = .tuple #[v, B true]) ∨ (sfind es k 0 = none ∧ u = .tuple #[z', B false])) :
    RunV P H n ρ ⟨dst, .lookup T x y true, ty, pos, af, gd⟩ u := fun w hw => by
  obtain ⟨E, clk, h1, h2⟩ := h
  rw [← hw] at h1
  have e1 := run_getMap (P := P) h1
  have e2 := run_checkKeyS (P := P) (w := w) (k := k) (e := E.isEmpty) hk
  have e3 := run_findKeyS (P := P) (w := w) (k := k) hk h2
  have e4 := run_zero hz w
  rcases hf with ⟨h3, rfl⟩ | ⟨h3, rfl⟩
  · rw [h3] at e3
    simp [execOp, hx, hy, Instr.lookup, underlying, hT, e1, e2, e3]
  · rw [h3] at e3
    simp [execOp, hx, hy, Instr.lookup, underlying, hT, e1, e2, e3, e4]
theorem rv_makeFuncF {f : FuncId} {fs : Array Operand} {vs : List Value} (hx : fs.toList.map (ev n ρ) = vs) : RunV P H n ρ ⟨dst, .makeFunc (.func f) fs #[], ty, pos, af, gd⟩ (.func (.func f) vs.toArray #[]) := fun w _ => by
  have : fs.map (ev n ρ) = vs.toArray := by rw [← hx, ← Array.toList_map]
  simp [execOp, Instr.makeFunc, this]
theorem ent_vf {f : FuncId} {args : List Value} {xs : Array Operand} {Ts : Array TypeId} {w : World} {c : Operand} {fst : List Value} (hf : ∃ fn c, P.funcs[f]? = some fn ∧ (fn.name == "runtime.NumGoroutine") = false ∧ fn.body = some c)
    (hc : ev n ρ c = .func (.func f) fst.toArray #[]) (hx : fst ++ xs.toList.map (ev n ρ) = args) :
    Enters P n ρ ⟨dst, .call ⟨.value c, xs, Ts⟩, ty, pos, af, gd⟩ f args w := by
  obtain ⟨fn, c, h1, h2, h3⟩ := hf
  replace hx : fst.toArray ++ xs.map (ev n ρ) = args.toArray := by
    rw [← hx]; apply Array.ext'; simp
  simp only [Enters, execOp, resolve, hc, Deferred.ofValue, Sem.run_bind, Sem.run_pure, Result.andThen_ok, invoke, callFunc, run_program, Array.append_empty, hx, h1, h2, h3]
  simp
theorem sfind_t {p : ByteArray × Value} {r : List (ByteArray × Value)} {i : Nat} (h : (k == p.1) = true) : sfind (p :: r) k i = some (i, p.2) := by
  rw [ba_beq, decide_eq_true_eq] at h
  unfold sfind; rw [if_pos h]
theorem sfind_f {p : ByteArray × Value} {r : List (ByteArray × Value)} {i : Nat} (h : (k == p.1) = false) : sfind (p :: r) k i = sfind r k (i + 1) := by
  rw [ba_beq, decide_eq_false_iff_not] at h
  show (if k = p.1 then _ else _) = _
  rw [if_neg h]
end
def Ch.cr (b : Nat) (es : List (ByteArray × Value)) : Ch where
  dup := true
  fp _ := False
  as σ := (∃ E clk, σ.w.heap[b]? = some (.map E clk) ∧ EntsS es E.toList) ∧ 0 < σ.vis b
  hdup _ _ := id
  hlt _ _ h := h.elim
  hst m _ h := by
    obtain ⟨⟨E, clk, h1, h2⟩, h3⟩ := h
    exact ⟨⟨E, clk, (m.ext.block _ h3).trans h1, h2⟩, Nat.lt_of_lt_of_le h3 (m.ext.vis _)⟩
section
variable {S0 : BS} {σ0 σ : St} {L R : List Ch} {b lo : Nat} {es : List (ByteArray × Value)}
theorem Hp.cr (H : Hp S0 σ0 σ L) (i : Nat) (h : nth L i = some (Ch.cr b es)) : (∃ E clk, σ.w.heap[b]? = some (.map E clk) ∧ EntsS es E.toList) ∧ 0 < σ.vis b := H.get h
theorem Hp.pubCm (H : Hp S0 σ0 σ (Ch.cm lo b es :: R)) : ∃ σ' : St, σ'.w = σ.w ∧ Hp S0 σ0 σ' (Ch.cr b es :: R) := by
  obtain ⟨⟨E, clk, h1, h2⟩, h3, h4⟩ := H.head
  have hb : b < σ.size := lt_of_block h1
  have m : Md (fun i => i = b) σ (σ.pub b 1 hb) := ⟨rfl, rfl, rfl, .inr (Nat.le_refl _), rfl, St.pub_ext hb, fun _ _ _ => rfl, fun i _ hn => by
    show (if i = b then _ else _) = _
    rw [if_neg hn]⟩
  refine ⟨σ.pub b 1 hb, rfl, Hp.frame1 (A' := [Ch.cr b es]) H (Hp.one (m.mono fun i hi => .inl hi) ⟨⟨E, clk, h1, h2⟩, ?_⟩ (fun i hi _ => hi.elim))⟩
  show 0 < (if b = b then max (σ.vis b) 1 else _)
  rw [if_pos rfl]; omega
end
end Go.Vs

namespace Go.Vs
open Go
section
variable {P : Program} {ops : Array Oper} {Q : Exit → Act → World → Prop} {rest : List Oper} {n : Nat} {ρ : Nat → Value} {w : World} {d : Nat} {x : Operand} {ty : TypeId} {pos : String} {af : Array Edge}
theorem sm (v : Value) (h : ev n ρ x = v) (k : wpList P ops Q rest (fr n (upd ρ d v)) w) : wpList P ops Q (⟨some d, .move x, ty, pos, af, none⟩ :: rest) (fr n ρ) w := st (rv_move h) k
theorem sa (v : Value) (h : ev n ρ x = v) (k : wpList P ops Q rest (fr n (upd ρ d v)) w) : wpList P ops Q (⟨some d, .assign x, ty, pos, af, none⟩ :: rest) (fr n ρ) w := st (rv_assign h) k
theorem br {α β : Type} {o : Option α} {f : α → Option β} {r : β} {p : Prop} (k : ∀ x, o = some x → f x = some r → p) : o.bind f = some r → p := fun h => let ⟨x, h1, h2⟩ := bind_some h; k x h1 h2
theorem sj {α : Type} {a b : α} (h : some a = some b) : a = b := Option.some.inj h
end
end Go.Vs
