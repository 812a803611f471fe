/- Slices that the call makes: literals, append, make; parts of slices; stores into them. -/
import Derived.Test.YtcgkbgidfilodaaVsStep
set_option linter.unusedVariables false
set_option linter.unusedSimpArgs false
namespace Go.Vs
open Go

abbrev Sl {α : Type} (a : Option Addr) (xs : List α) (c : Nat) : Value := .slice a xs.length c

section
variable {α : Type} [Rp α]

/-- All cells of a slice that can be read. -/
theorem Rd.row {el : Nat} {σ : St} {v : Value} {xs : List α} (h : Rd el σ v xs) : ∃ L : List Value, L.length = xs.length * Rp.sz α ∧
    (∀ i, (hi : i < xs.length) → ∃ cs, Rp.rp el σ cs xs[i] ∧ ∀ j, (hj : j < cs.length) → L[i * Rp.sz α + j]? = some cs[j]) ∧
    (((∃ ad c, v = .slice ad 0 c) ∧ xs = []) ∨ ∃ b o c, v = .slice (some ⟨b, o, none⟩) xs.length c ∧ ∀ j, (hj : j < L.length) → σ.w.cell? ⟨b, o + j, none⟩ = some L[j]) := by
  rcases h with ⟨hv, rfl⟩ | ⟨b, o, c, rfl, h⟩
  · exact ⟨[], by simp, fun i hi => by simp at hi, .inl ⟨hv, rfl⟩⟩
  · have key : ∀ k, k < xs.length * Rp.sz α → ∃ u, σ.w.cell? ⟨b, o + k, none⟩ = some u := by
      intro k hk
      have hp : 0 < Rp.sz α := Rp.pos
      have hq : k / Rp.sz α < xs.length := (Nat.div_lt_iff_lt_mul hp).2 hk
      obtain ⟨cs, h1, h2⟩ := h _ hq
      have hm := Nat.mod_lt k hp
      have := h2 (k % Rp.sz α) (by rw [Rp.len h1]; exact hm)
      have e : o + k / Rp.sz α * Rp.sz α + k % Rp.sz α = o + k := by
        have := Nat.div_add_mod k (Rp.sz α)
        rw [Nat.mul_comm] at this; omega
      rw [e] at this
      exact ⟨_, this⟩
    refine ⟨(List.range (xs.length * Rp.sz α)).map fun k => (σ.w.cell? ⟨b, o + k, none⟩).getD undef, by simp, fun i hi => ?_, .inr ⟨b, o, c, rfl, fun j hj => ?_⟩⟩
    · obtain ⟨cs, h1, h2⟩ := h i hi
      refine ⟨cs, h1, fun j hj => ?_⟩
      have hl := Rp.len h1
      have : (i + 1) * Rp.sz α ≤ xs.length * Rp.sz α := Nat.mul_le_mul_right _ hi
      rw [Nat.add_mul] at this
      have e := h2 j hj
      rw [Nat.add_assoc] at e
      simp only [List.getElem?_map]
      rw [List.getElem?_range (by omega)]
      simp only [Option.map_some]
      rw [show σ.w.cell? ⟨b, o + (i * Rp.sz α + j), none⟩ = some cs[j] from e]
      rfl
    · simp only [List.length_map, List.length_range] at hj
      obtain ⟨u, hu⟩ := key j hj
      simp [hu]

theorem Rd.plain {el : Nat} {σ : St} {xs : List α} {L : List Value} (h1 : L.length = xs.length * Rp.sz α)
    (h2 : ∀ i, (hi : i < xs.length) → ∃ cs, Rp.rp el σ cs xs[i] ∧ ∀ j, (hj : j < cs.length) → L[i * Rp.sz α + j]? = some cs[j]) : ∀ u ∈ L, plain u = true := by
  intro u hu
  obtain ⟨k, hk, rfl⟩ := List.mem_iff_getElem.1 hu
  have hp : 0 < Rp.sz α := Rp.pos
  have hq : k / Rp.sz α < xs.length := (Nat.div_lt_iff_lt_mul hp).2 (by omega)
  obtain ⟨cs, h3, h4⟩ := h2 _ hq
  have hm := Nat.mod_lt k hp
  have := h4 (k % Rp.sz α) (by rw [Rp.len h3]; exact hm)
  have e : k / Rp.sz α * Rp.sz α + k % Rp.sz α = k := by
    have := Nat.div_add_mod k (Rp.sz α)
    rw [Nat.mul_comm] at this; omega
  rw [e, List.getElem?_eq_getElem hk] at this
  rw [Option.some.inj this]
  exact Rp.one h3 _ (List.getElem_mem _)

theorem run_firstCells {P : Program} {σ : St} {v : Value} {xs : List α} {L : List Value} (h1 : L.length = xs.length * Rp.sz α)
    (h : ((∃ ad c, v = .slice ad 0 c) ∧ xs = []) ∨ ∃ b o c, v = .slice (some ⟨b, o, none⟩) xs.length c ∧ ∀ j, (hj : j < L.length) → σ.w.cell? ⟨b, o + j, none⟩ = some L[j]) (w : World) (hw : w.heap = σ.w.heap) :
    (Builtin.firstCells (Rp.sz α) xs.length v).run P w = .ok L.toArray w := by
  rcases h with ⟨⟨ad, c, rfl⟩, rfl⟩ | ⟨b, o, c, rfl, h⟩
  · have : L = [] := List.eq_nil_of_length_eq_zero (by simpa using h1)
    subst this
    cases ad with
    | none => rfl
    | some a => simp only [List.length_nil, Builtin.firstCells, loadCells, Nat.zero_mul]; rfl
  · have := run_loadCellsFrom (P := P) w b o (xs.length * Rp.sz α) 0 L [] h1 (fun j hj => by
      have := h j hj
      simp only [Nat.zero_add]
      rw [← this]
      simp only [World.cell?, hw])
    simpa [Builtin.firstCells, loadCells] using this

theorem growBy_le (need : Nat) : ∀ (r c : Nat), c ≤ 2 * need + 300 → Builtin.growBy need r c ≤ 2 * need + 300
  | 0, c, h => by simpa [Builtin.growBy] using h
  | r + 1, c, h => by
    unfold Builtin.growBy
    split
    · exact h
    · exact growBy_le need r _ (by omega)
theorem nextslicecap_le {need c : Nat} (h : c < need) : Builtin.nextslicecap need c ≤ 2 * need + 300 := by
  unfold Builtin.nextslicecap
  split
  · omega
  · split
    · omega
    · exact growBy_le _ _ _ (by omega)

theorem At.put {el : Nat} {σ : St} {b o : Nat} {C C' : Array Value} {T : TypeId} {x : α} (h : At el σ b o x) (hb : σ.w.heap[b]? = some (.cells C T (0, 0))) (hv : σ.vis b = 0)
    (hC : ∀ j, j < Rp.sz α → C'[o + j]? = C[o + j]?) : At el (σ.put b (.cells C' T (0, 0))) b o x := by
  obtain ⟨cs, h1, h2⟩ := h
  refine ⟨cs, Rp.ext (St.put_ext hv) h1, fun j hj => ?_⟩
  have e := h2 j hj
  have e1 : (σ.put b (.cells C' T (0, 0))).cell b (o + j) = C'[o + j]? := by
    show (World.put σ.w b _).cell? _ = _
    simp only [World.cell?, World.put_at _ (lt_of_block hb), Option.isSome_none, Bool.false_eq_true, if_false]
  have e2 : σ.cell b (o + j) = C[o + j]? := by
    show σ.w.cell? _ = _
    simp only [World.cell?, hb, Option.isSome_none, Bool.false_eq_true, if_false]
  rw [e1, hC j (by rw [← Rp.len h1]; exact hj), ← e2, e]
theorem At.ofCells {el : Nat} {σ : St} {b o : Nat} {C : Array Value} {T : TypeId} {f : Nat × Nat} {x : α} {cs : List Value} (hb : σ.w.heap[b]? = some (.cells C T f)) (hr : Rp.rp el σ cs x)
    (hC : ∀ j, (hj : j < cs.length) → C[o + j]? = some cs[j]) : At el σ b o x := by
  refine ⟨cs, hr, fun j hj => ?_⟩
  show σ.w.cell? _ = _
  simp only [World.cell?, hb, Option.isSome_none, Bool.false_eq_true, if_false]
  exact hC j hj
end

section
variable {P : Program} {ops : Array Oper} {Q : Exit → Act → World → Prop} {n d : Nat} {ρ : Nat → Value} {σ : St} {u v : Value} {rest : List Oper}
variable {ty T T' E E' : TypeId} {pos : String} {af : Array Edge} {x y : Operand} {a : Int} {α : Type} [Rp α] {xs ys : List α} {z : Value} {s bt lo : Nat}

theorem run_append {el : Nat} (hT : P.underlying T = some (.slice E)) (hT' : P.underlying T' = some (.slice E')) (hi : TI P E z s bt) (hs : s = Rp.sz α) (hzs : z.cells.size = s) (hbt : bt ≤ 1024)
    (hO : Ow σ lo el v xs) (hS : Rd el σ u ys) (hlen : xs.length + ys.length ≤ 2147483648) (hlo : lo ≤ σ.size) :
    ∃ a' c' σ', (Builtin.append_ #[T, T'] ty #[v, u]).run P σ.w = .ok (Sl a' (xs ++ ys) c') σ'.w ∧ Mod (blk v) σ σ' ∧ Ow σ' lo el (Sl a' (xs ++ ys) c') (xs ++ ys) ∧
      (blk (Sl a' (xs ++ ys) c') = blk v ∨ ∀ b, blk (Sl a' (xs ++ ys) c') = some b → σ.size ≤ b) ∧ ∀ ad0 m0 cp0, v = .slice ad0 m0 cp0 → xs.length + ys.length ≤ cp0 → c' = cp0 := by
  obtain ⟨i0, hi1, hi2, hi3, hi4⟩ := hi.it
  have hTI := hi
  obtain ⟨L, hL1, hL2, hL3⟩ := hS.row
  obtain ⟨K, hK1, hK2, hK3⟩ := hO.rd.row
  have hpl := Rd.plain hL1 hL2
  subst hs
  have hlenOf : ∀ w, (Builtin.lenOf u).run P w = .ok ys.length w := by
    intro w
    obtain ⟨ad, c, rfl⟩ := hS.isSl
    rfl
  obtain ⟨ad, cp, hvs⟩ := hO.isSl
  by_cases hcap : xs.length + ys.length ≤ cp
  · -- it fits
    rcases hO with ⟨rfl, rfl⟩ | ⟨b, o, c, C, T0, rfl, h2, h3, h4, h5, h6, h7⟩
    · cases hvs
      have hy : ys = [] := List.eq_nil_of_length_eq_zero (by simpa using hcap)
      subst hy
      refine ⟨none, 0, σ, ?_, Mod.refl _ _, Ow.nil, .inl rfl, by rintro _ _ _ ⟨⟩ _; rfl⟩
      have hf := run_firstCells (P := P) hL1 hL3 σ.w rfl
      simp only [List.length_nil] at hf
      simp only [Builtin.append_, List.getElem?_toArray, List.getElem?_cons_zero, List.getElem?_cons_succ, underlying, hT, hT', Sem.run_bind, run_program, Result.andThen_ok, Sem.run_pure, run_typeInfo hTI, hlenOf,
        if_true, Bool.false_eq_true, if_false, Bool.not_false, List.length_nil, Nat.add_zero, Nat.le_refl, hf]
      rfl
    · cases hvs
      have hend : o + xs.length * Rp.sz α + L.length ≤ C.size := by
        have : (xs.length + ys.length) * Rp.sz α ≤ cp * Rp.sz α := Nat.mul_le_mul_right _ hcap
        rw [Nat.add_mul] at this; omega
      have hst := run_storeCells (P := P) b (o + xs.length * Rp.sz α) T0 L 0 σ.w C h3 (by simpa using hend) hpl
      simp only [Nat.add_zero] at hst
      refine ⟨some ⟨b, o, none⟩, cp, σ.put b (.cells (wr C (o + xs.length * Rp.sz α) L) T0 (0, 0)), ?_, ?_, ?_, .inl rfl, by rintro _ _ _ ⟨⟩ _; rfl⟩
      · simp only [Builtin.append_, List.getElem?_toArray, List.getElem?_cons_zero, List.getElem?_cons_succ, underlying, hT, hT', Sem.run_bind, run_program, Result.andThen_ok, Sem.run_pure, run_typeInfo hTI, hlenOf,
          hcap, if_true, Bool.false_eq_true, if_false, Bool.not_false, run_firstCells hL1 hL3 σ.w rfl, add_plain, hst, Sl, List.length_append]
        rfl
      · exact St.put_mod h6
      · refine .inr ⟨b, o, cp, _, T0, rfl, h2, World.put_at _ (lt_of_block h3), by rw [List.length_append]; exact hcap, by rw [wr_size]; exact h5, h6, fun i hi => ?_⟩
        by_cases hix : i < xs.length
        · rw [List.getElem_append_left hix]
          have : (i + 1) * Rp.sz α ≤ xs.length * Rp.sz α := Nat.mul_le_mul_right _ hix
          rw [Nat.add_mul] at this
          exact (h7 i hix).put h3 h6 (fun j hj => wr_lt _ _ _ _ (by omega))
        · rw [List.getElem_append_right (by omega)]
          rw [List.length_append] at hi
          obtain ⟨cs, hc1, hc2⟩ := hL2 (i - xs.length) (by omega)
          refine At.ofCells (World.put_at _ (lt_of_block h3)) (Rp.ext (St.put_ext h6) hc1) (fun j hj => ?_)
          have hl := Rp.len hc1
          have hlt : (i - xs.length) * Rp.sz α + j < L.length := by
            have : (i - xs.length + 1) * Rp.sz α ≤ ys.length * Rp.sz α := Nat.mul_le_mul_right _ (by omega)
            rw [Nat.add_mul] at this; omega
          have e := wr_in L C (o + xs.length * Rp.sz α) ((i - xs.length) * Rp.sz α + j) hend hlt
          have e2 := hc2 j hj
          rw [List.getElem?_eq_getElem hlt] at e2
          have e3 : o + i * Rp.sz α + j = o + xs.length * Rp.sz α + ((i - xs.length) * Rp.sz α + j) := by
            have : i * Rp.sz α = xs.length * Rp.sz α + (i - xs.length) * Rp.sz α := by rw [← Nat.add_mul]; congr 1; omega
            omega
          rw [e3, e, e2]
  · -- a new block
    have hn := nextslicecap_le (need := xs.length + ys.length) (c := cp) (by omega)
    have hbig : ¬ Builtin.nextslicecap (xs.length + ys.length) cp * bt > 2 ^ 48 := by
      have h1 : Builtin.nextslicecap (xs.length + ys.length) cp * bt ≤ (2 * (xs.length + ys.length) + 300) * 1024 := Nat.mul_le_mul hn hbt
      have h2 : (2 : Nat) ^ 48 = 281474976710656 := by decide
      omega
    have hmax : ¬ (((xs.length + ys.length : Nat) : Int) > IntKind.i64.max ∧ (false = true ∨ bt = 0)) := by
      have : IntKind.i64.max = 9223372036854775807 := by decide
      omega
    have hmax' : ¬ (((xs.length + ys.length : Nat) : Int) > IntKind.i64.max) := by
      have : IntKind.i64.max = 9223372036854775807 := by decide
      omega
    let q : Question := .appendCap (xs.length + ys.length) cp E
    let cap' := q.cut (σ.w.tape σ.w.drawn q)
    have hcap' : xs.length + ys.length ≤ cap' := by
      show _ ≤ Question.cut (.appendCap (xs.length + ys.length) cp E) _
      simp only [Question.cut]; omega
    let Z := Builtin.zeroCells z.cells (cap' - (xs.length + ys.length))
    have hZ : Z.size = (cap' - (xs.length + ys.length)) * z.cells.size := by show (Builtin.zeroCells _ _).size = _; simp [Builtin.zeroCells]
    let R : List Value := K ++ L ++ Z.toList
    let w1 : World := { σ.w with drawn := σ.w.drawn + 1 }
    have hR : (K.toArray ++ L.toArray ++ Z) = R.toArray := by
      apply Array.ext'
      simp [R]
    have hf1 := run_firstCells (P := P) (σ := σ) (v := v) hK1 hK3 w1 rfl
    have hf2 := run_firstCells (P := P) (σ := σ) (v := u) hL1 hL3 w1 rfl
    have hroom : (askRoom (cap' * bt)).run P w1 = .ok () w1 := by
      unfold askRoom; split <;> rfl
    have hch : (choose (.appendCap (xs.length + ys.length) cp E)).run P σ.w = .ok cap' w1 := by
      simp [choose, Sem.run, Question.forced, cap', q, w1]
    have hti : (typeInfo E).run P = fun w => .ok i0 w := by
      funext w; simp [typeInfo, hi1]
    have hrun : (Builtin.append_ #[T, T'] ty #[v, u]).run P σ.w = .ok (Sl (some ⟨σ.size, 0, none⟩) (xs ++ ys) cap') (σ.new (.cells R.toArray E (0, 0)) 1).w := by
      subst hvs
      simp only [Builtin.append_, List.getElem?_toArray, List.getElem?_cons_zero, List.getElem?_cons_succ, underlying, hT, hT', Sem.run_bind, run_program, Result.andThen_ok, Sem.run_pure, run_typeInfo hTI, hlenOf,
        hcap, if_true, Bool.false_eq_true, if_false, Bool.not_false, hmax', false_and, hti, hi4, hbig, hch, hroom, hf1, hf2, run_zero hTI, Sl, List.length_append]
      rw [show (K.toArray ++ L.toArray ++ Builtin.zeroCells z.cells (cap' - (xs.length + ys.length))) = R.toArray from hR]
      rfl
    have hnew := σ.new_new (.cells R.toArray E (0, 0)) 1
    refine ⟨_, cap', _, hrun, (σ.new_mod _ 1).step (Mod.refl _ _) (.inl rfl) |> fun h => ⟨h.os, h.tape, h.output, h.dr, h.ext, ⟨fun b hb _ => h.oth.block b hb (by simp), fun b hb _ => h.oth.vis b hb (by simp)⟩⟩,
      .inr ⟨σ.size, 0, cap', R.toArray, E, rfl, hlo, hnew, by rw [List.length_append]; exact hcap', ?_, σ.new_vis _ 1, fun i hi => ?_⟩, .inr (by rintro b ⟨⟩; exact Nat.le_refl _), fun ad0 m0 cp0 e h => absurd h (by rw [hvs] at e; cases e; exact hcap)⟩
    · simp only [R, List.size_toArray, List.length_append, hK1, hL1, Array.length_toList, hZ, hzs, Nat.zero_add]
      rw [← Nat.add_mul, ← Nat.add_mul]
      exact Nat.mul_le_mul_right _ (by omega)
    · have hE := (σ.new_mod (.cells R.toArray E (0, 0)) 1).ext
      by_cases hix : i < xs.length
      · rw [List.getElem_append_left hix]
        obtain ⟨cs, hc1, hc2⟩ := hK2 i hix
        refine At.ofCells hnew (Rp.ext hE hc1) (fun j hj => ?_)
        have e2 := hc2 j hj
        have hlt := List.some_lt e2
        simp only [R, Nat.zero_add, List.getElem?_toArray, List.append_assoc]
        rw [List.getElem?_append_left hlt, e2]
      · rw [List.getElem_append_right (by omega)]
        rw [List.length_append] at hi
        obtain ⟨cs, hc1, hc2⟩ := hL2 (i - xs.length) (by omega)
        refine At.ofCells hnew (Rp.ext hE hc1) (fun j hj => ?_)
        have e2 := hc2 j hj
        have hlt := List.some_lt e2
        have e3 : i * Rp.sz α + j = K.length + ((i - xs.length) * Rp.sz α + j) := by
          have : i * Rp.sz α = xs.length * Rp.sz α + (i - xs.length) * Rp.sz α := by rw [← Nat.add_mul]; congr 1; omega
          omega
        simp only [R, Nat.zero_add, List.getElem?_toArray, List.append_assoc]
        rw [e3, List.getElem?_append_right (by omega), Nat.add_sub_cancel_left, List.getElem?_append_left hlt, e2]
end
end Go.Vs
