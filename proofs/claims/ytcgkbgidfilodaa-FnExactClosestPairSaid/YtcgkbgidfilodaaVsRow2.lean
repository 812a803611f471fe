/- Slices of numbers that come in: all memory is published. -/
import Derived.Test.YtcgkbgidfilodaaVsRow
set_option linter.unusedVariables false
set_option linter.unusedSimpArgs false
namespace Go.Vs
open Go Go.ChangeShapes Go.WideShapes Go.ChangeAt Go.RowKit

/-- The state in which all memory is published. -/
def allIn (W : World) (N : Nat) : St := ⟨W, fun c => if c < W.heap.size then N else 0, fun c hc => if_neg (by omega)⟩

theorem arg_ints {H : Type} {enc : TypeId × Value → H} {P : Program} {W : World} {base : Nat} {t e : TypeId} {v : Value} {d : DataW H} {p : List MemPlace} (ht : P.underlying t = some (.slice e)) (he : P.underlying e = some (.int .i64)) (hc : P.cellsOf e = 1)
    (hval : Value.okWide P W .any base t v) (hd : DataW.Trod enc P W 0 (fun _ => true) true t v d p) (hlt : ∀ x ∈ p, x.block < W.heap.size) :
    ∃ (a : Option Addr) (xs : List Int) (cap N : Nat), v = Sl a xs cap ∧ ∀ M, N ≤ M → RS 0 (allIn W M) (Sl a xs cap) xs := by
  obtain ⟨a0, len, cap, rfl⟩ := okWide_slice ht hval
  obtain ⟨fuel, hf⟩ := hd
  rcases open_ints ht he hc hf with ⟨hcs, hx⟩ | ⟨a, len', cap', zs, hcs, _, hl, hm, hz, hx, hcell, hwz⟩
  · simp [Value.cells] at hcs
    obtain ⟨rfl, rfl, rfl⟩ := hcs
    exact ⟨none, [], 0, 0, rfl, fun M _ => .inl ⟨⟨none, 0, rfl⟩, rfl⟩⟩
  · simp [Value.cells] at hcs
    obtain ⟨rfl, rfl, rfl⟩ := hcs
    simp only [Prod.mk.injEq] at hx
    obtain ⟨rfl, rfl⟩ := hx
    simp only [if_true] at hz
    by_cases hl0 : len = 0
    · subst hl0
      exact ⟨some a, [], cap, 0, rfl, fun M _ => .inl ⟨⟨some a, cap, rfl⟩, rfl⟩⟩
    · obtain ⟨b, off, spot⟩ := a
      have hspot : spot = none := by simpa [Addr.add] using World.cell?_spot (hcell 0 (by omega))
      subst hspot
      have hbW : b < W.heap.size := hlt (.cell b off) (MemPlace.mem_row.2 ⟨0, by omega, by simp⟩)
      have hzl : (zs.take len).length = len := by simp; omega
      refine ⟨some ⟨b, off, none⟩, zs.take len, cap, off + len, by simp only [Sl, hzl], fun M hM => .inr ⟨b, off, cap, rfl, Nat.zero_le _, by omega, ?_, fun i hi => ?_⟩⟩
      · show off + (zs.take len).length * 1 ≤ (if b < W.heap.size then M else 0)
        rw [if_pos hbW, hzl]; omega
      · refine ⟨[.int .i64 ((zs.take len)[i])], rfl, fun j hj => ?_⟩
        have hj0 : j = 0 := by simpa using hj
        subst hj0
        have hi' : i < len := by omega
        have := hcell i (by omega)
        rw [Go.Vs.add_plain] at this
        show W.cell? ⟨b, off + i * 1 + 0, none⟩ = _
        rw [Nat.mul_one, Nat.add_zero, this]
        simp [List.getD, hi', show i < zs.length by omega]
end Go.Vs
