/- Parts of slices of the function's own, which are looked at, copied into, cleared and appended to while the whole is still had. -/
import Derived.Test.YtcgkbgidfilodaaVtKind
set_option linter.unusedVariables false
set_option linter.unusedSimpArgs false
namespace Go.Vs
open Go

/-- A slice of which n elements from l on are others. -/
def gcopyAt {α : Type} (xs : List α) (l n : Nat) (ys : List α) : List α := xs.take l ++ (ys.take n ++ xs.drop (l + min n ys.length))
theorem gcopyAt_len {α : Type} {xs ys : List α} {l n : Nat} (h : l + n ≤ xs.length) : (gcopyAt xs l n ys).length = xs.length := by
  unfold gcopyAt; simp only [List.length_append, List.length_take, List.length_drop]; omega
/-- append of so many zeros. -/
def gappz {α : Type} (xs : List α) (k : Int) (z : α) : Option (List α) := if 0 ≤ k ∧ xs.length + k.toNat ≤ 2147483648 then some (xs ++ List.replicate k.toNat z) else none
theorem gappz_some {α : Type} {xs r : List α} {k : Int} {z : α} (h : gappz xs k z = some r) : 0 ≤ k ∧ xs.length + k.toNat ≤ 2147483648 ∧ r = xs ++ List.replicate k.toNat z := by
  unfold gappz at h; split at h
  · rename_i hc; exact ⟨hc.1, hc.2, (Option.some.inj h).symm⟩
  · cases h
/-- Three indexes that fit. -/
def gthree (l h m : Int) (n : Nat) : Option Unit := if 0 ≤ l ∧ l ≤ h ∧ h ≤ m ∧ m ≤ (n : Int) then some () else none
theorem gthree_some {l h m : Int} {n : Nat} {u : Unit} (hg : gthree l h m n = some u) : 0 ≤ l ∧ l ≤ h ∧ h ≤ m ∧ m ≤ (n : Int) := by
  unfold gthree at hg; split at hg
  · assumption
  · cases hg

section
variable {P : Program} {n : Nat} {ρ : Nat → Value} {σ0 σ : St} {S0 : BS} {L R : List Ch} {u v : Value} {T T' E E' ty : TypeId} {pos : String} {af : Array Edge} {gd : Option (Nat × Bool)} {dst : Option Nat} {x y q : Operand} {a l h k m : Int} {lo el bt s c c' : Nat} {z : Value}
variable {α : Type} [Rp α] {xs ys p r : List α} {ad ad' : Option Addr} {H : Array Obj}

theorem Ow.view (hO : Ow σ lo el (Sl ad xs c) xs) (hg : gslice xs l h = some p) (hs : Slc ad xs.length c (Rp.sz α) l h ad' p.length c') : Ow σ lo el (Sl ad' p c') p ∧ ∀ b, blk (Sl ad' p c') = some b → blk (Sl ad xs c) = some b := by
  obtain ⟨ad2, c2, hs2, h1, h2⟩ := hO.slice hg
  have e1 : ad' = ad2 := hs.ea.trans hs2.ea.symm
  have e2 : c' = c2 := hs.ec.trans hs2.ec.symm
  subst e1 e2
  exact ⟨h1, h2⟩

/-- Cells of the first elements. -/
theorem Rd.first (hS : Rd el σ u ys) (k : Nat) (hk : k ≤ ys.length) : ∃ K : List Value, K.length = k * Rp.sz α ∧ (∀ i, (hi : i < k) → ∃ cs, Rp.rp el σ cs (ys[i]'(by omega)) ∧ ∀ j, (hj : j < cs.length) → K[i * Rp.sz α + j]? = some cs[j]) ∧ (∀ t ∈ K, Go.Vs.plain t = true) ∧ (Builtin.firstCells (Rp.sz α) k u).run P σ.w = .ok K.toArray σ.w := by
  obtain ⟨K, h1, h2, h3⟩ := hS.row
  have hle : k * Rp.sz α ≤ ys.length * Rp.sz α := Nat.mul_le_mul_right _ hk
  refine ⟨K.take (k * Rp.sz α), by rw [List.length_take]; omega, fun i hi => ?_, fun t ht => Rd.plain h1 h2 t (List.mem_of_mem_take ht), ?_⟩
  · obtain ⟨cs, h4, h5⟩ := h2 i (by omega)
    refine ⟨cs, h4, fun j hj => ?_⟩
    have hl := Rp.len h4
    have : (i + 1) * Rp.sz α ≤ k * Rp.sz α := Nat.mul_le_mul_right _ hi
    rw [Nat.add_mul] at this
    rw [List.getElem?_take, if_pos (by omega)]
    exact h5 j hj
  · rcases h3 with ⟨⟨ad, c, rfl⟩, rfl⟩ | ⟨b, o, c, rfl, h3⟩
    · have : k = 0 := by simpa using hk
      subst this
      cases ad with
      | none => simp [Builtin.firstCells]
      | some a => simp [Builtin.firstCells, loadCells, loadCellsFrom]
    · have := run_loadCellsFrom (P := P) σ.w b o (k * Rp.sz α) 0 (K.take (k * Rp.sz α)) [] (by rw [List.length_take]; omega) (fun j hj => by
        rw [List.length_take] at hj
        have := h3 j (by omega)
        simp only [Nat.zero_add, List.getElem_take]
        exact this)
      simpa [Builtin.firstCells, loadCells] using this

/-- Elements of an own slice are written over. -/
theorem Ow.write {b o : Nat} {C : Array Value} {T0 : TypeId} {K : List Value} {j : Nat} (h2 : lo ≤ b) (h3 : σ.w.heap[b]? = some (.cells C T0 (0, 0))) (h4 : xs.length ≤ c) (h5 : o + c * Rp.sz α ≤ C.size) (h6 : σ.vis b = 0)
    (h7 : ∀ i, (h : i < xs.length) → At el σ b (o + i * Rp.sz α) xs[i]) (hK : K.length = ys.length * Rp.sz α) (hj : j + ys.length ≤ xs.length)
    (hr : ∀ i, (hi : i < ys.length) → ∃ cs, Rp.rp el σ cs ys[i] ∧ ∀ k, (hk : k < cs.length) → K[i * Rp.sz α + k]? = some cs[k]) :
    Ow (σ.put b (.cells (wr C (o + j * Rp.sz α) K) T0 (0, 0))) lo el (Sl (some ⟨b, o, none⟩) xs c) (xs.take j ++ (ys ++ xs.drop (j + ys.length))) := by
  have hlen : (xs.take j ++ (ys ++ xs.drop (j + ys.length))).length = xs.length := by simp; omega
  have hbound : o + j * Rp.sz α + K.length ≤ C.size := by
    have : (j + ys.length) * Rp.sz α ≤ c * Rp.sz α := Nat.mul_le_mul_right _ (by omega)
    rw [Nat.add_mul] at this; omega
  refine .inr ⟨b, o, c, _, T0, by rw [hlen], h2, World.put_at _ (lt_of_block h3), by rw [hlen]; exact h4, by rw [wr_size]; exact h5, h6, fun i hi => ?_⟩
  rw [hlen] at hi
  by_cases c1 : i < j
  · have e : (xs.take j ++ (ys ++ xs.drop (j + ys.length)))[i]'(by omega) = xs[i] := by
      rw [List.getElem_append_left (by simp; omega), List.getElem_take]
    rw [e]
    have : (i + 1) * Rp.sz α ≤ j * Rp.sz α := Nat.mul_le_mul_right _ c1
    rw [Nat.add_mul] at this
    exact (h7 i hi).put h3 h6 (fun k hk => wr_lt _ _ _ _ (by omega))
  · by_cases c2 : i < j + ys.length
    · have e : (xs.take j ++ (ys ++ xs.drop (j + ys.length)))[i]'(by omega) = ys[i - j]'(by omega) := by
        rw [List.getElem_append_right (by simp; omega), List.getElem_append_left (by simp; omega)]
        congr 1; simp; omega
      rw [e]
      obtain ⟨cs, g1, g2⟩ := hr (i - j) (by omega)
      refine At.ofCells (World.put_at _ (lt_of_block h3)) (Rp.ext (St.put_ext h6) g1) (fun k hk => ?_)
      have hl := Rp.len g1
      have hlt : (i - j) * Rp.sz α + k < K.length := by
        have : (i - j + 1) * Rp.sz α ≤ ys.length * Rp.sz α := Nat.mul_le_mul_right _ (by omega)
        rw [Nat.add_mul] at this; omega
      have e1 := wr_in K C (o + j * Rp.sz α) ((i - j) * Rp.sz α + k) hbound hlt
      have e2 := g2 k hk
      rw [List.getElem?_eq_getElem hlt] at e2
      have e3 : o + i * Rp.sz α + k = o + j * Rp.sz α + ((i - j) * Rp.sz α + k) := by
        have : i * Rp.sz α = j * Rp.sz α + (i - j) * Rp.sz α := by rw [← Nat.add_mul]; congr 1; omega
        omega
      rw [e3, e1, e2]
    · have e : (xs.take j ++ (ys ++ xs.drop (j + ys.length)))[i]'(by omega) = xs[i] := by
        rw [List.getElem_append_right (by simp; omega), List.getElem_append_right (by simp; omega), List.getElem_drop]
        congr 1; simp; omega
      rw [e]
      have h8 : (j + ys.length) * Rp.sz α ≤ i * Rp.sz α := Nat.mul_le_mul_right _ (by omega)
      rw [Nat.add_mul] at h8
      exact (h7 i hi).put h3 h6 (fun k hk => wr_ge _ _ _ _ (by omega))

/-- copy into a part of an own slice. -/
theorem ex_copyV {i : Nat} (H : Hp S0 σ0 σ L) (hpk : pick L i = some (Ch.own lo el (Sl ad xs c) xs, R)) (hT : P.underlying T = some (.slice E)) (hi : TI P E z s bt) (hs : s = Rp.sz α)
    (hg : gslice xs l h = some p) (hv : Slc ad xs.length c (Rp.sz α) l h ad' p.length c') (hS : Rd el σ u ys) (hx : ev n ρ x = Sl ad' p c') (hy : ev n ρ y = u) :
    Ex P σ n ρ ⟨dst, .call ⟨.builtin .copy, #[x, y], #[T, T']⟩, ty, pos, af, gd⟩ fun v' σ' => v' = I (min ys.length p.length : Nat) ∧ Hp S0 σ0 σ' (Ch.own lo el (Sl ad xs c) (gcopyAt xs l.toNat p.length ys) :: R) ∧ Md (fun b => blk (Sl ad xs c) = some b) σ σ' := by
  subst hs
  obtain ⟨h0, h1, h2, _, hpl⟩ := gslice_some hg
  have hO : Ow σ lo el (Sl ad xs c) xs := (H.front hpk).head
  have hlen : ∀ w, (Builtin.lenOf u).run P w = .ok ys.length w := by
    intro w
    obtain ⟨ad, c, rfl⟩ := hS.isSl
    rfl
  obtain ⟨K, k1, k2, k3, k4⟩ := hS.first (P := P) (Nat.min ys.length p.length) (Nat.min_le_left _ _)
  have hlt : (ys.take (min ys.length p.length)).length = min ys.length p.length := by rw [List.length_take]; omega
  have hrun : ∀ w', (match ad' with | some a => storeCells a K | none => pure ()).run P σ.w = .ok () w' → (execOp (ev n ρ) ⟨dst, .call ⟨.builtin .copy, #[x, y], #[T, T']⟩, ty, pos, af, gd⟩).run P σ.w = .ok (.value (I (min ys.length p.length : Nat))) w' := by
    intro w' hw
    simp only [execOp, resolve, List.map_toArray, List.map_cons, List.map_nil, hx, hy, Sem.run_bind, Sem.run_pure, Result.andThen_ok, invoke, builtin, Builtin.copy_, List.getElem?_toArray, List.getElem?_cons_zero, List.getElem?_cons_succ, underlying, hT, run_program, hlen, run_typeInfo hi, k4]
    cases ad' with
    | none =>
      simp only [Sem.run_pure, Result.ok.injEq, true_and] at hw
      subst hw; rfl
    | some a =>
      simp only at hw
      simp only [Sem.run_bind, hw, Result.andThen_ok, Sem.run_pure]; rfl
  have hre : gcopyAt xs l.toNat p.length ys = xs.take l.toNat ++ (ys.take (min ys.length p.length) ++ xs.drop (l.toNat + (ys.take (min ys.length p.length)).length)) := by
    unfold gcopyAt
    rw [hlt, Nat.min_comm p.length]
    congr 2
    by_cases hc : ys.length ≤ p.length
    · rw [Nat.min_eq_left hc, List.take_of_length_le hc, List.take_of_length_le (Nat.le_refl _)]
    · rw [Nat.min_eq_right (by omega)]
  by_cases hzero : min ys.length p.length = 0
  · -- nothing is copied
    have hK : K = [] := List.eq_nil_of_length_eq_zero (by rw [k1]; show min ys.length p.length * _ = 0; rw [hzero]; simp)
    subst hK
    refine ⟨_, σ, hrun σ.w (by cases ad' <;> rfl), rfl, ?_, Md.refl _ _⟩
    have e : gcopyAt xs l.toNat p.length ys = xs := by
      rw [hre, hzero]; simp
    rw [e]; exact H.front hpk
  · rcases hO with ⟨hn, hxs⟩ | ⟨b, o, c0, C, T0, hv0, g2, g3, g4, g5, g6, g7⟩
    · subst hxs; simp only [List.length_nil] at h2; omega
    · cases hv0
      have ha : ad' = some ⟨b, o + l.toNat * Rp.sz α, none⟩ := by
        have := hv.ea
        rw [if_neg (by have := hv.h3; omega)] at this
        rw [this]; simp [add_plain]
      have hj : l.toNat + (ys.take (min ys.length p.length)).length ≤ xs.length := by rw [hlt]; omega
      have hst := run_storeCells (P := P) b (o + l.toNat * Rp.sz α) T0 K 0 σ.w C g3 (by
        have : (l.toNat + min ys.length p.length) * Rp.sz α ≤ c * Rp.sz α := Nat.mul_le_mul_right _ (by omega)
        rw [Nat.add_mul] at this
        rw [k1]
        show _ + 0 + min ys.length p.length * _ ≤ _
        omega) k3
      simp only [Nat.add_zero] at hst
      have m : Mod (blk (Sl (some ⟨b, o, none⟩) xs c)) σ (σ.put b (.cells (wr C (o + l.toNat * Rp.sz α) K) T0 (0, 0))) := St.put_mod g6
      refine ⟨_, σ.put b (.cells (wr C (o + l.toNat * Rp.sz α) K) T0 (0, 0)), hrun _ (by rw [ha]; exact hst), rfl, ?_, m.md⟩
      rw [hre]
      exact frame_own H hpk m (Ow.write g2 g3 g4 g5 g6 g7 (by rw [hlt, k1]) hj (fun i hi => by
        rw [hlt] at hi
        obtain ⟨cs, r1, r2⟩ := k2 i hi
        exact ⟨cs, by rw [List.getElem_take]; exact r1, r2⟩)) (.inl rfl)

/-- append to a part of an own slice, which is used up by it. -/
theorem ex_appV {i : Nat} (H : Hp S0 σ0 σ L) (hpk : pick L i = some (Ch.own lo el (Sl ad xs c) xs, R)) (hT : P.underlying T = some (.slice E)) (hT' : P.underlying T' = some (.slice E')) (hi : TI P E z s bt) (hs : s = Rp.sz α) (hzs : z.cells.size = s) (hbt : bt ≤ 1024)
    (hg : gslice xs l h = some p) (hv : Slc ad xs.length c (Rp.sz α) l h ad' p.length c') (hS : Rd el σ u ys) (hr : gapp p ys = some r) (hlo : lo ≤ σ0.size) (hx : ev n ρ x = Sl ad' p c') (hy : ev n ρ y = u) :
    Ex P σ n ρ ⟨dst, .call ⟨.builtin .append, #[x, y], #[T, T']⟩, ty, pos, af, gd⟩ fun v' σ' => ∃ a2 c2, v' = Sl a2 r c2 ∧ Hp S0 σ0 σ' (Ch.own lo el (Sl a2 r c2) r :: R) ∧ Md (fun b => blk (Sl ad xs c) = some b) σ σ' ∧ (p.length + ys.length ≤ c' → c2 = c') := by
  obtain ⟨hlen, rfl⟩ := gapp_some hr
  obtain ⟨hO, hb⟩ := ((H.front hpk).head : Ow σ lo el (Sl ad xs c) xs).view hg hv
  obtain ⟨a2, c2, σ', h1, h2, h3, h4, h5⟩ := run_append (ty := ty) hT hT' hi hs hzs hbt hO hS hlen (Nat.le_trans hlo H.size)
  have hm : Md (fun b => blk (Sl ad xs c) = some b) σ σ' := h2.md.mono (fun b hb' => hb b hb')
  refine ⟨_, σ', ?_, a2, c2, rfl, Hp.frame1 (A' := [Ch.own lo el (Sl a2 (p ++ ys) c2) (p ++ ys)]) (H.front hpk) (Hp.one (hm.mono fun b hb => .inl hb) h3 (fun b hb' hlt => ?_)), hm, fun hf => h5 _ _ _ rfl hf⟩
  · simp only [RunW, execOp, resolve, List.map_toArray, List.map_cons, List.map_nil, hx, hy, Sem.run_bind, Sem.run_pure, Result.andThen_ok, invoke, builtin, h1]
  · rcases h4 with h4 | h4
    · exact .inl (hb b (h4 ▸ hb'))
    · exact absurd hlt (Nat.not_lt.2 (h4 b hb'))

/-- append of zeros to a part of an own slice, which has no room for them: a new one; the other is still had. -/
theorem ex_appZ {i : Nat} {z0 : α} {zs : List Value} (H : Hp S0 σ0 σ L) (hpk : nth L i = some (Ch.own lo el (Sl ad xs c) xs)) (hT : P.underlying T = some (.slice E)) (hT' : P.underlying T' = some (.int .i64)) (hi : TI P E z s bt) (hs : s = Rp.sz α) (hzc : z.cells = zs.toArray) (hz : Rp.rp el σ zs z0) (hbt : bt ≤ 1024)
    (ht : c = xs.length) (hg : gslice xs 0 h = some p) (hv : Slc ad xs.length c (Rp.sz α) 0 h ad' p.length c') (hr : gappz p k z0 = some r) (hnew : (xs.length : Int) < p.length + k) {lo' : Nat} (hlo : lo' ≤ σ0.size) (hx : ev n ρ x = Sl ad' p c') (hy : ev n ρ y = I k) :
    Ex P σ n ρ ⟨dst, .call ⟨.builtin .append, #[x, y], #[T, T']⟩, ty, pos, af, gd⟩ fun v' σ' => ∃ b c2, v' = Sl (some ⟨b, 0, none⟩) r c2 ∧ Hp S0 σ0 σ' (Ch.own lo' el (Sl (some ⟨b, 0, none⟩) r c2) r :: L) ∧ Md (cov []) σ σ' := by
  obtain ⟨hk0, hlen, rfl⟩ := gappz_some hr
  obtain ⟨kn, rfl⟩ := Int.eq_ofNat_of_zero_le hk0
  simp only [Int.toNat_natCast] at hlen ⊢
  obtain ⟨hO, _⟩ := (H.get hpk : Ow σ lo el (Sl ad xs c) xs).view hg hv
  obtain ⟨i0, hi1, hi2, hi3, hi4⟩ := hi.it
  have hTI := hi
  subst hs
  obtain ⟨K, hK1, hK2, hK3⟩ := hO.rd.row
  have hcp : c' = xs.length := by rw [hv.ec, ht]; simp
  have hcap : ¬ p.length + kn ≤ c' := by omega
  have hzl : zs.length = Rp.sz α := Rp.len hz
  have hn := nextslicecap_le (need := p.length + kn) (c := c') (by omega)
  have hbig : ¬ Builtin.nextslicecap (p.length + kn) c' * bt > 2 ^ 48 := by
    have h1 : Builtin.nextslicecap (p.length + kn) c' * bt ≤ (2 * (p.length + kn) + 300) * 1024 := Nat.mul_le_mul hn hbt
    have h2 : (2 : Nat) ^ 48 = 281474976710656 := by decide
    omega
  have hsm : ¬ (kn : Int) * (bt : Int) > 2 ^ 48 := by
    have h1 : kn * bt ≤ 2147483648 * 1024 := Nat.mul_le_mul (by omega) hbt
    have h2 : (2 : Int) ^ 48 = 281474976710656 := by decide
    rw [h2, ← Int.natCast_mul]; omega
  have hmax : ¬ (((p.length + kn : Nat) : Int) > IntKind.i64.max) := by
    have : IntKind.i64.max = 9223372036854775807 := by decide
    omega
  have hwr : IntKind.i64.wrap (kn : Int) = kn := w64_id (by omega) (by omega)
  let q : Question := .appendCap (p.length + kn) c' E
  let cap' := q.cut (σ.w.tape σ.w.drawn q)
  have hcap' : p.length + kn ≤ cap' := by
    show _ ≤ Question.cut (.appendCap (p.length + kn) c' E) _
    simp only [Question.cut]; omega
  let Z := Builtin.zeroCells z.cells (cap' - (p.length + kn))
  let W := Builtin.zeroCells z.cells kn
  have hZ : Z.size = (cap' - (p.length + kn)) * z.cells.size := by show (Builtin.zeroCells _ _).size = _; simp [Builtin.zeroCells]
  have hW : W.size = kn * z.cells.size := by show (Builtin.zeroCells _ _).size = _; simp [Builtin.zeroCells]
  have hzs : z.cells.size = Rp.sz α := by rw [hzc]; simpa using hzl
  let Rl : List Value := K ++ W.toList ++ Z.toList
  let w1 : World := { σ.w with drawn := σ.w.drawn + 1 }
  have hR : (K.toArray ++ W ++ Z) = Rl.toArray := by
    apply Array.ext'
    simp [Rl]
  have hf1 := run_firstCells (P := P) (σ := σ) (v := Sl ad' p c') hK1 hK3 w1 rfl
  have hroom : (askRoom (cap' * bt)).run P w1 = .ok () w1 := by
    unfold askRoom; split <;> rfl
  have hch : (choose (.appendCap (p.length + kn) c' E)).run P σ.w = .ok cap' w1 := by
    simp [choose, Sem.run, Question.forced, cap', q, w1]
  have hti : (typeInfo E).run P = fun w => .ok i0 w := by
    funext w; simp [typeInfo, hi1]
  obtain ⟨_, g1, g2, _, g3⟩ := gslice_some hg
  have hpos : 0 < kn := by omega
  have hnz : ¬ kn * Rp.sz α = 0 := by
    have := Rp.pos (α := α)
    have : 0 < kn * Rp.sz α := Nat.mul_pos hpos this
    omega
  have hrun : (Builtin.append_ #[T, T'] ty #[Sl ad' p c', I (kn : Int)]).run P σ.w = .ok (Sl (some ⟨σ.size, 0, none⟩) (p ++ List.replicate kn z0) cap') (σ.new (.cells Rl.toArray E (0, 0)) 1).w := by
    simp only [Builtin.append_, List.getElem?_toArray, List.getElem?_cons_zero, List.getElem?_cons_succ, underlying, hT, hT', Sem.run_bind, run_program, Result.andThen_ok, Sem.run_pure, run_typeInfo hTI, asInt, asIntOf, hwr, hti, hi4,
      hcap, if_true, Bool.not_true, Bool.false_eq_true, if_false, show ¬ ((kn : Int) < 0) by omega, hsm, Int.toNat_natCast, hmax, false_and, hbig, hch, hroom, hf1, hnz, run_zero hTI, Sl, List.length_append, List.length_replicate]
    rw [show (K.toArray ++ Builtin.zeroCells z.cells kn ++ Builtin.zeroCells z.cells (cap' - (p.length + kn))) = Rl.toArray from hR]
    rfl
  have hnw := σ.new_new (.cells Rl.toArray E (0, 0)) 1
  have hE := (σ.new_mod (.cells Rl.toArray E (0, 0)) 1).ext
  have hOw : Ow (σ.new (.cells Rl.toArray E (0, 0)) 1) σ.size el (Sl (some ⟨σ.size, 0, none⟩) (p ++ List.replicate kn z0) cap') (p ++ List.replicate kn z0) := by
    refine .inr ⟨σ.size, 0, cap', Rl.toArray, E, rfl, Nat.le_refl _, hnw, by simp; omega, ?_, σ.new_vis _ 1, fun i hi => ?_⟩
    · simp only [Rl, List.size_toArray, List.length_append, hK1, Array.length_toList, hZ, hW, hzs, Nat.zero_add]
      rw [← Nat.add_mul, ← Nat.add_mul]
      exact Nat.mul_le_mul_right _ (by omega)
    · by_cases hix : i < p.length
      · rw [List.getElem_append_left hix]
        obtain ⟨cs, hc1, hc2⟩ := hK2 i hix
        refine At.ofCells hnw (Rp.ext hE hc1) (fun j hj => ?_)
        have e2 := hc2 j hj
        have hlt := List.some_lt e2
        simp only [Rl, Nat.zero_add, List.getElem?_toArray, List.append_assoc]
        rw [List.getElem?_append_left hlt, e2]
      · rw [List.getElem_append_right (by omega), List.getElem_replicate]
        simp only [List.length_append, List.length_replicate] at hi
        refine At.ofCells hnw (Rp.ext hE hz) (fun j hj => ?_)
        have e3 : i * Rp.sz α + j = K.length + ((i - p.length) * Rp.sz α + j) := by
          have : i * Rp.sz α = p.length * Rp.sz α + (i - p.length) * Rp.sz α := by rw [← Nat.add_mul]; congr 1; omega
          omega
        have hlt : (i - p.length) * Rp.sz α + j < W.toList.length := by
          have hWl : W.toList.length = kn * Rp.sz α := by rw [Array.length_toList, hW, hzs]
          rw [hWl]
          have : (i - p.length + 1) * Rp.sz α ≤ kn * Rp.sz α := Nat.mul_le_mul_right _ (by omega)
          rw [Nat.add_mul] at this; omega
        simp only [Rl, Nat.zero_add, List.getElem?_toArray, List.append_assoc]
        rw [e3, List.getElem?_append_right (by omega), Nat.add_sub_cancel_left, List.getElem?_append_left hlt, Array.getElem?_toList]
        have := zeros_get (zc := z.cells) (m := kn) (i := i - p.length) (j := j) (by omega) (by rw [hzs]; omega)
        rw [hzs] at this
        show (Builtin.zeroCells z.cells kn)[_]? = _
        rw [Builtin.zeroCells, hzs, this, hzc]
        simp
  refine ⟨_, σ.new (.cells Rl.toArray E (0, 0)) 1, ?_, σ.size, cap', rfl, new_own H hlo (σ.new_mod _ 1) hOw, (σ.new_mod _ 1).md0⟩
  simp only [RunW, execOp, resolve, List.map_toArray, List.map_cons, List.map_nil, hx, hy, Sem.run_bind, Sem.run_pure, Result.andThen_ok, invoke, builtin, hrun]
theorem app_new {n pl : Nat} {h X : Int} (hp : (pl : Int) = h) (hn : h ≤ (n : Int)) (hb : decide ((n : Int) < w64 X) = true) : (n : Int) < pl + w64 (w64 X - h) := by
  have h1 := w64_range X
  have h2 : (n : Int) < w64 X := of_decide_eq_true hb
  rw [w64_id (n := w64 X - h) (by omega) (by omega)]; omega

theorem rv_slice3 (hT : P.underlying T = some (.slice E)) (hi : TI P E z s bt) {n3 : Nat} {o3 : Unit} (hg : gthree l h m n3 = some o3) (hc : n3 ≤ c) {q1 q2 q3 : Operand} (hx : ev n ρ x = .slice ad n3 c) (h1 : ev n ρ q1 = I l) (h2 : ev n ρ q2 = I h) (h3 : ev n ρ q3 = I m) :
    RunV P H n ρ ⟨dst, .slice T x (some q1) (some q2) (some q3), ty, pos, af, gd⟩ (.slice (if m.toNat = l.toNat then ad else ad.map (·.add (l.toNat * s))) (h.toNat - l.toNat) (m.toNat - l.toNat)) := fun w _ => by
  obtain ⟨g0, g1, g2, g3⟩ := gthree_some hg
  have g4 : m ≤ (c : Int) := by omega
  have e1 : (h.toNat : Int) = h := Int.toNat_of_nonneg (by omega)
  have e2 : (m.toNat : Int) = m := Int.toNat_of_nonneg (by omega)
  simp [execOp, hx, h1, h2, h3, Instr.sliceAt, Instr.slice, underlying, hT, Instr.sliceBounds, Instr.sliceBound, asIntOf, g0, g1, g2, g4, show 0 ≤ h by omega, show 0 ≤ m by omega, e1, e2, run_typeInfo hi]
/-- The part behind the end, up to a place within the room. -/
theorem rv_sliceX (hT : P.underlying T = some (.slice E)) (hi : TI P E z s bt) {m0 k0 : Nat} (h1 : m0 ≤ k0) (h2 : k0 ≤ c) {q1 q2 : Operand} (hx : ev n ρ x = .slice ad m0 c) (hp : ev n ρ q1 = I m0) (hq : ev n ρ q2 = I k0) :
    RunV P H n ρ ⟨dst, .slice T x (some q1) (some q2) none, ty, pos, af, gd⟩ (.slice (if c = m0 then ad else ad.map (·.add (m0 * s))) (k0 - m0) (c - m0)) := fun w _ => by
  simp [execOp, hx, hp, hq, Instr.sliceAt, Instr.slice, underlying, hT, Instr.sliceBounds, Instr.sliceBound, asIntOf, h1, h2, run_typeInfo hi]
/-- It is cleared. -/
theorem ex_clearX {i k0 : Nat} (H : Hp S0 σ0 σ L) (hpk : pick L i = some (Ch.own lo el (Sl ad xs c) xs, R)) (hT : P.underlying T = some (.slice E)) (hi : TI P E z s bt) (hs : s = Rp.sz α) (hzs : z.cells.size = s) (hzp : ∀ t ∈ z.cells.toList, plain t = true) (h1 : xs.length ≤ k0) (h2 : k0 ≤ c)
    (hx : ev n ρ x = .slice (if c = xs.length then ad else ad.map (·.add (xs.length * s))) (k0 - xs.length) (c - xs.length)) :
    Ex P σ n ρ ⟨dst, .call ⟨.builtin .clear, #[x], #[T]⟩, ty, pos, af, gd⟩ fun v' σ' => v' = .tuple #[] ∧ Hp S0 σ0 σ' (Ch.own lo el (Sl ad xs c) xs :: R) ∧ Md (fun b => blk (Sl ad xs c) = some b) σ σ' := by
  subst hs
  have hO : Ow σ lo el (Sl ad xs c) xs := (H.front hpk).head
  by_cases hz : k0 = xs.length
  · subst hz
    refine ⟨_, σ, ?_, rfl, H.front hpk, Md.refl _ _⟩
    simp only [RunW, execOp, resolve, List.map_toArray, List.map_cons, List.map_nil, hx, Sem.run_bind, Sem.run_pure, Result.andThen_ok, invoke, builtin, Builtin.clear_, List.getElem?_toArray, List.getElem?_cons_zero, underlying, hT, run_program, Nat.sub_self]
    generalize (if c = xs.length then ad else ad.map (·.add (xs.length * Rp.sz α))) = a
    cases a <;> rfl
  · rcases hO with ⟨hn, hxs⟩ | ⟨b, o, c0, C, T0, hv0, g2, g3, g4, g5, g6, g7⟩
    · simp only [Sl, Value.slice.injEq] at hn; omega
    · cases hv0
      let K := (Builtin.zeroCells z.cells (k0 - xs.length)).toList
      have hK : K.length = (k0 - xs.length) * Rp.sz α := by
        show (Builtin.zeroCells z.cells (k0 - xs.length)).toList.length = _
        rw [Array.length_toList]; simp [Builtin.zeroCells, hzs]
      have hKp : ∀ t ∈ K, plain t = true := by
        intro t ht
        simp only [K, Builtin.zeroCells, Array.toList_map, Array.toList_range, List.mem_map, List.mem_range] at ht
        obtain ⟨j, hj, rfl⟩ := ht
        have : 0 < z.cells.size := by rw [hzs]; exact Rp.pos
        rw [getElem!_pos z.cells _ (Nat.mod_lt _ this)]
        exact hzp _ (by simp)
      have hend : o + xs.length * Rp.sz α + K.length ≤ C.size := by
        have : k0 * Rp.sz α ≤ c * Rp.sz α := Nat.mul_le_mul_right _ h2
        rw [hK]
        have e : xs.length * Rp.sz α + (k0 - xs.length) * Rp.sz α = k0 * Rp.sz α := by rw [← Nat.add_mul]; congr 1; omega
        omega
      have hst := run_storeCells (P := P) b (o + xs.length * Rp.sz α) T0 K 0 σ.w C g3 (by simpa using hend) hKp
      simp only [Nat.add_zero] at hst
      have m : Mod (blk (Sl (some ⟨b, o, none⟩) xs c)) σ (σ.put b (.cells (wr C (o + xs.length * Rp.sz α) K) T0 (0, 0))) := St.put_mod g6
      refine ⟨_, σ.put b (.cells (wr C (o + xs.length * Rp.sz α) K) T0 (0, 0)), ?_, rfl, frame_own H hpk m (.inr ⟨b, o, c, _, T0, rfl, g2, World.put_at _ (lt_of_block g3), g4, by rw [wr_size]; exact g5, g6, fun i hi => ?_⟩) (.inl rfl), m.md⟩
      · rw [if_neg (by omega)] at hx
        obtain ⟨kk, hkk⟩ : ∃ kk, k0 - xs.length = kk + 1 := ⟨k0 - xs.length - 1, by omega⟩
        simp only [Option.map_some, add_plain, hkk] at hx
        simp only [RunW, execOp, resolve, List.map_toArray, List.map_cons, List.map_nil, hx, Sem.run_bind, Sem.run_pure, Result.andThen_ok, invoke, builtin, Builtin.clear_, List.getElem?_toArray, List.getElem?_cons_zero, underlying, hT, run_program, run_zero hi]
        rw [← hkk]
        rw [show (storeCells ⟨b, o + xs.length * Rp.sz α, none⟩ (Builtin.zeroCells z.cells (k0 - xs.length)).toList).run P σ.w = _ from hst]
        rfl
      · have : (i + 1) * Rp.sz α ≤ xs.length * Rp.sz α := Nat.mul_le_mul_right _ hi
        rw [Nat.add_mul] at this
        exact (g7 i hi).put g3 g6 (fun j hj => wr_lt _ _ _ _ (by omega))
/-- A part of an own slice is cleared. -/
theorem ex_clearV {i : Nat} {z0 : α} {zs : List Value} (H : Hp S0 σ0 σ L) (hpk : pick L i = some (Ch.own lo el (Sl ad xs c) xs, R)) (hT : P.underlying T = some (.slice E)) (hi : TI P E z s bt) (hs : s = Rp.sz α) (hzc : z.cells = zs.toArray) (hz : Rp.rp el σ zs z0)
    (hg : gslice xs l h = some p) (hv : Slc ad xs.length c (Rp.sz α) l h ad' p.length c') (hx : ev n ρ x = Sl ad' p c') :
    Ex P σ n ρ ⟨dst, .call ⟨.builtin .clear, #[x], #[T]⟩, ty, pos, af, gd⟩ fun v' σ' => v' = .tuple #[] ∧ Hp S0 σ0 σ' (Ch.own lo el (Sl ad xs c) (gcopyAt xs l.toNat p.length (List.replicate p.length z0)) :: R) ∧ Md (fun b => blk (Sl ad xs c) = some b) σ σ' := by
  subst hs
  obtain ⟨h0, h1, h2, _, hpl⟩ := gslice_some hg
  have hO : Ow σ lo el (Sl ad xs c) xs := (H.front hpk).head
  have hzl : zs.length = Rp.sz α := Rp.len hz
  have hzs : z.cells.size = Rp.sz α := by rw [hzc]; simpa using hzl
  have hre : gcopyAt xs l.toNat p.length (List.replicate p.length z0) = xs.take l.toNat ++ (List.replicate p.length z0 ++ xs.drop (l.toNat + (List.replicate p.length z0).length)) := by
    unfold gcopyAt
    simp
  by_cases hzero : p.length = 0
  · refine ⟨_, σ, ?_, rfl, ?_, Md.refl _ _⟩
    · simp only [Sl, hzero] at hx
      simp only [RunW, execOp, resolve, List.map_toArray, List.map_cons, List.map_nil, hx, Sem.run_bind, Sem.run_pure, Result.andThen_ok, invoke, builtin, Builtin.clear_, List.getElem?_toArray, List.getElem?_cons_zero, underlying, hT, run_program]
      cases ad' <;> rfl
    · have e : gcopyAt xs l.toNat p.length (List.replicate p.length z0) = xs := by
        rw [hre, hzero]; simp
      rw [e]; exact H.front hpk
  · rcases hO with ⟨hn, hxs⟩ | ⟨b, o, c0, C, T0, hv0, g2, g3, g4, g5, g6, g7⟩
    · subst hxs; simp only [List.length_nil] at h2; omega
    · cases hv0
      have ha : ad' = some ⟨b, o + l.toNat * Rp.sz α, none⟩ := by
        have := hv.ea
        rw [if_neg (by have := hv.h3; omega)] at this
        rw [this]; simp [add_plain]
      let K := (Builtin.zeroCells z.cells p.length).toList
      have hK : K.length = p.length * Rp.sz α := by
        show (Builtin.zeroCells z.cells p.length).toList.length = _
        rw [Array.length_toList]; simp [Builtin.zeroCells, hzs]
      have hKr : ∀ i, i < p.length → ∀ k, (hk : k < zs.length) → K[i * Rp.sz α + k]? = some zs[k] := by
        intro i hi k hk
        have := zeros_get (zc := z.cells) (m := p.length) (i := i) (j := k) hi (by rw [hzs]; omega)
        rw [hzs] at this
        show (Builtin.zeroCells z.cells p.length).toList[_]? = _
        rw [Array.getElem?_toList, Builtin.zeroCells, hzs, this, hzc]
        simp
      have hKp : ∀ t ∈ K, plain t = true := by
        intro t ht
        simp only [K, Builtin.zeroCells, Array.toList_map, Array.toList_range, List.mem_map, List.mem_range] at ht
        obtain ⟨j, hj, rfl⟩ := ht
        have : 0 < z.cells.size := by rw [hzs]; exact Rp.pos
        rw [getElem!_pos z.cells _ (Nat.mod_lt _ this)]
        refine Rp.one hz _ ?_
        have hm : z.cells[j % z.cells.size]'(Nat.mod_lt _ this) ∈ z.cells.toList := by simp
        have e : z.cells.toList = zs := by rw [hzc]
        rw [e] at hm; exact hm
      have hj : l.toNat + p.length ≤ xs.length := by omega
      have hst := run_storeCells (P := P) b (o + l.toNat * Rp.sz α) T0 K 0 σ.w C g3 (by
        have : (l.toNat + p.length) * Rp.sz α ≤ c * Rp.sz α := Nat.mul_le_mul_right _ (by omega)
        rw [Nat.add_mul] at this
        rw [hK]; omega) hKp
      simp only [Nat.add_zero] at hst
      have m : Mod (blk (Sl (some ⟨b, o, none⟩) xs c)) σ (σ.put b (.cells (wr C (o + l.toNat * Rp.sz α) K) T0 (0, 0))) := St.put_mod g6
      refine ⟨_, σ.put b (.cells (wr C (o + l.toNat * Rp.sz α) K) T0 (0, 0)), ?_, rfl, ?_, m.md⟩
      · obtain ⟨kk, hkk⟩ : ∃ kk, p.length = kk + 1 := ⟨p.length - 1, by omega⟩
        rw [ha] at hx
        simp only [Sl, hkk] at hx
        simp only [RunW, execOp, resolve, List.map_toArray, List.map_cons, List.map_nil, hx, Sem.run_bind, Sem.run_pure, Result.andThen_ok, invoke, builtin, Builtin.clear_, List.getElem?_toArray, List.getElem?_cons_zero, underlying, hT, run_program, run_zero hi]
        rw [← hkk]
        rw [show (storeCells ⟨b, o + l.toNat * Rp.sz α, none⟩ (Builtin.zeroCells z.cells p.length).toList).run P σ.w = _ from hst]
        rfl
      · rw [hre]
        exact frame_own H hpk m (Ow.write g2 g3 g4 g5 g6 g7 (by rw [hK]; simp) (by simpa using hj) (fun i hi => by
          simp only [List.length_replicate] at hi
          exact ⟨zs, by rw [List.getElem_replicate]; exact hz, hKr i hi⟩)) (.inl rfl)
omit [Rp α] in
/-- What Delete clears is within the room. -/
theorem del_room {q0 : List α} {i0 j0 : Int} {ap : Option Addr} {cp c2 : Nat} (hp : gslice xs 0 i0 = some p) (hq : gslice xs j0 (xs.length : Int) = some q0) (hij : i0 ≤ j0) (hr : gapp p q0 = some r) (hsp : Slc ad xs.length c s 0 i0 ap p.length cp) (hfit : p.length + q0.length ≤ cp → c2 = cp) : r.length ≤ xs.length ∧ xs.length ≤ c2 := by
  obtain ⟨a0, a1, a2, _, a4⟩ := gslice_some hp
  obtain ⟨b0, b1, b2, _, b4⟩ := gslice_some hq
  obtain ⟨_, rfl⟩ := gapp_some hr
  have h3 := hsp.h3
  have hec : cp = c := by rw [hsp.ec]; simp
  have : p.length + q0.length ≤ xs.length := by omega
  refine ⟨by rw [List.length_append]; exact this, ?_⟩
  rw [hfit (by omega)]; omega
end
end Go.Vs
