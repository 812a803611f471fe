/- Lists and records that come in: all memory is published. -/
import Derived.Test.YtcgkbgidfilodaaVsRow2
import Derived.Deep.Strs
set_option linter.unusedVariables false
set_option linter.unusedSimpArgs false
namespace Go.Vs
open Go Go.ChangeShapes Go.WideShapes Go.ChangeAt Go.RowKit

section
variable {H : Type} {enc : TypeId × Value → H} {P : Program} {W : World}

/-- The values of a type are read as values of a Lean type. -/
def Opens {α : Type} [Rp α] (enc : TypeId × Value → H) (P : Program) (W : World) (t : TypeId) (ok : α → Prop) : Prop :=
  ∀ {fuel : Nat} {cs : List Value} {x : DataW H × List MemPlace}, DataW.trod enc P W 0 (fun _ => true) true fuel t cs = some x → (∀ pl ∈ x.2, pl.block < W.heap.size) →
    ∃ (a : α) (N : Nat), ok a ∧ ∀ M, N ≤ M → Rp.rp 0 (allIn W M) cs a

theorem opens_int {t : TypeId} (ht : P.underlying t = some (.int .i64)) : Opens (α := Int) enc P W t (fun _ => True) := by
  intro fuel cs x h _
  obtain ⟨n, rfl, _, _⟩ := DataW.trod_int ht h
  exact ⟨n, 0, trivial, fun _ _ => rfl⟩

theorem opens_slice {α : Type} [Rp α] {t e : TypeId} {ok : α → Prop} (ht : P.underlying t = some (.slice e)) (hc : P.cellsOf e = Rp.sz α) (he : Opens (α := α) enc P W e ok) :
    Opens (α := List α) enc P W t (fun xs => xs.length ≤ 9223372036854775807 ∧ ∀ x ∈ xs, ok x) := by
  intro fuel cs x h hlt
  rcases DataW.trod_slice ht h with ⟨rfl, rfl⟩ | ⟨a, len, cap, elems, rest, n, _, rfl, rfl, _, hl, hm, hlen, hel, _, _⟩
  · exact ⟨[], 0, ⟨by simp, by simp⟩, fun M _ => ⟨_, rfl, .inl ⟨⟨none, 0, rfl⟩, rfl⟩⟩⟩
  by_cases hl0 : len = 0
  · subst hl0
    exact ⟨[], 0, ⟨by simp, by simp⟩, fun M _ => ⟨_, rfl, .inl ⟨⟨some a, cap, rfl⟩, rfl⟩⟩⟩
  -- each element
  have each : ∀ i, i < len → ∃ (v : α) (N : Nat) (ci : List Value), ok v ∧ ci.length = Rp.sz α ∧ (∀ j, (hj : j < ci.length) → W.cell? ((a.add (i * Rp.sz α)).add j) = some ci[j]) ∧ ∀ M, N ≤ M → Rp.rp 0 (allIn W M) ci v := by
    intro i hi
    have h1 := hel i hi
    have hi' : i < elems.length := by omega
    rw [List.getElem?_eq_getElem hi'] at h1
    obtain ⟨ci, hci, htr⟩ := Option.bind_eq_some_iff.1 h1
    rw [hc] at hci
    obtain ⟨_, hcl, hcc⟩ := World.cells?_some hci
    have hpl : ∀ pl ∈ elems[i].2, pl.block < W.heap.size := by
      intro pl hp
      refine hlt pl ?_
      simp only [List.mem_append, List.mem_flatMap]
      exact .inr ⟨elems[i], .inl (List.getElem_mem _), hp⟩
    obtain ⟨v, N, hv, hr⟩ := he htr hpl
    refine ⟨v, N, ci, hv, hcl, fun j hj => ?_, hr⟩
    have := hcc j (by omega)
    rw [this, List.getElem?_eq_getElem hj]
  have hpos : 0 < Rp.sz α := Rp.pos
  obtain ⟨b, off, spot⟩ := a
  have hspot : spot = none := by
    obtain ⟨_, _, ci, _, hcl, hcc, _⟩ := each 0 (by omega)
    have := World.cell?_spot (hcc 0 (by omega))
    simpa [Addr.add] using this
  subst hspot
  have hbW : b < W.heap.size := by
    refine hlt (.cell b off) ?_
    rw [hc]
    refine List.mem_append_left _ (MemPlace.mem_row.2 ⟨0, ?_, by simp⟩)
    exact Nat.mul_pos (by omega) hpos
  -- all of them
  have all : ∀ m, m ≤ len → ∃ (xs : List α) (N : Nat), xs.length = m ∧ (∀ x ∈ xs, ok x) ∧ ∀ M, N ≤ M → ∀ i, (hi : i < xs.length) → At 0 (allIn W M) b (off + i * Rp.sz α) xs[i] := by
    intro m
    induction m with
    | zero => exact fun _ => ⟨[], 0, rfl, by simp, fun M _ i hi => absurd hi (by simp)⟩
    | succ m ih =>
      intro hm'
      obtain ⟨xs, N, hxl, hok, hat⟩ := ih (by omega)
      obtain ⟨v, N', ci, hv, hcl, hcc, hr⟩ := each m (by omega)
      refine ⟨xs ++ [v], max N N', by simp; omega, ?_, fun M hM i hi => ?_⟩
      · intro x hx
        rcases List.mem_append.1 hx with h | h
        · exact hok x h
        · simp only [List.mem_singleton] at h; subst h; exact hv
      · by_cases hi' : i < xs.length
        · rw [List.getElem_append_left hi']
          exact hat M (by omega) i hi'
        · have hi2 : i = m := by simp at hi; omega
          subst hi2
          have hx : (xs ++ [v])[i] = v := by
            rw [List.getElem_append_right (by omega)]; simp [hxl]
          rw [hx]
          refine ⟨ci, hr M (by omega), fun j hj => ?_⟩
          have := hcc j hj
          rw [add_plain, add_plain] at this
          exact this
  obtain ⟨xs, N, hxl, hok, hat⟩ := all len (Nat.le_refl _)
  have hmx : cap ≤ 9223372036854775807 := by
    have : maxLen ≤ 9223372036854775807 := by decide
    omega
  refine ⟨xs, max N (off + len * Rp.sz α), ⟨by omega, hok⟩, fun M hM => ⟨_, rfl, .inr ⟨b, off, cap, by rw [hxl], Nat.zero_le _, by omega, ?_, hat M (by omega)⟩⟩⟩
  show off + xs.length * Rp.sz α ≤ (if b < W.heap.size then M else 0)
  rw [if_pos hbW, hxl]; omega

theorem opens_struct3 {α β γ : Type} [Rp α] [Rp β] [Rp γ] {t : TypeId} {f0 f1 f2 : Field} {o0 : α → Prop} {o1 : β → Prop} {o2 : γ → Prop} (ht : P.underlying t = some (.struct #[f0, f1, f2])) (hc : P.cellsOf t = Rp.sz α + Rp.sz β + Rp.sz γ)
    (e0 : f0.offset = 0) (e1 : f1.offset = Rp.sz α) (e2 : f2.offset = Rp.sz α + Rp.sz β) (c0 : P.cellsOf f0.type = Rp.sz α) (c1 : P.cellsOf f1.type = Rp.sz β) (c2 : P.cellsOf f2.type = Rp.sz γ)
    (h0 : Opens (α := α) enc P W f0.type o0) (h1 : Opens (α := β) enc P W f1.type o1) (h2 : Opens (α := γ) enc P W f2.type o2) :
    Opens (α := α × β × γ) enc P W t (fun x => o0 x.1 ∧ o1 x.2.1 ∧ o2 x.2.2) := by
  intro fuel cs x h hlt
  obtain ⟨y0, y1, y2, n, rfl, hl, t0, t1, t2⟩ := Go.Deep.trod_struct3 ht h
  rw [hc] at hl
  rw [e0, c0] at t0
  rw [e1, c1] at t1
  rw [e2, c2] at t2
  obtain ⟨a0, N0, k0, r0⟩ := h0 t0 (fun pl hp => hlt pl (by simp [hp]))
  obtain ⟨a1, N1, k1, r1⟩ := h1 t1 (fun pl hp => hlt pl (by simp [hp]))
  obtain ⟨a2, N2, k2, r2⟩ := h2 t2 (fun pl hp => hlt pl (by simp [hp]))
  refine ⟨(a0, a1, a2), max N0 (max N1 N2), ⟨k0, k1, k2⟩, fun M hM => ⟨_, _, ?_, r0 M (by omega), _, _, rfl, r1 M (by omega), r2 M (by omega)⟩⟩
  have d2 : (cs.drop (Rp.sz α + Rp.sz β)).take (Rp.sz γ) = cs.drop (Rp.sz α + Rp.sz β) := List.take_of_length_le (by simp; omega)
  rw [d2, List.drop_zero, ← List.drop_drop, List.take_append_drop, List.take_append_drop]
end

/-- A slice that comes in. -/
theorem arg_list {H : Type} {enc : TypeId × Value → H} {P : Program} {W : World} {base : Nat} {α : Type} [Rp α] {t e : TypeId} {v : Value} {d : DataW H} {p : List MemPlace} {ok : α → Prop} (ht : P.underlying t = some (.slice e)) (hc : P.cellsOf e = Rp.sz α) (he : Opens (α := α) enc P W e ok)
    (hval : Value.okWide P W .any base t v) (hd : DataW.Trod enc P W 0 (fun _ => true) true t v d p) (hlt : ∀ x ∈ p, x.block < W.heap.size) :
    ∃ (a : Option Addr) (xs : List α) (cap N : Nat), (xs.length ≤ 9223372036854775807 ∧ ∀ x ∈ xs, ok x) ∧ v = Sl a xs cap ∧ ∀ M, N ≤ M → RS 0 (allIn W M) (Sl a xs cap) xs := by
  obtain ⟨a0, len, cap, rfl⟩ := okWide_slice ht hval
  obtain ⟨fuel, hf⟩ := hd
  obtain ⟨xs, N, hok, hr⟩ := opens_slice ht hc he hf hlt
  have hv : (Value.cells (.slice a0 len cap)).toList = [.slice a0 len cap] := by simp [Value.cells]
  have key : ∀ M, N ≤ M → RS 0 (allIn W M) (.slice a0 len cap) xs := by
    intro M hM
    obtain ⟨v, hv', hR⟩ := hr M hM
    rw [hv] at hv'
    simp only [List.cons.injEq, and_true] at hv'
    rw [hv']; exact hR
  have hlen : len = xs.length := by
    rcases key N (Nat.le_refl _) with ⟨⟨ad, c, h1⟩, h2⟩ | ⟨b, o, c, h1, _⟩
    · cases h1; rw [h2]; rfl
    · cases h1; rfl
  subst hlen
  exact ⟨a0, xs, cap, N, hok, rfl, key⟩
end Go.Vs
