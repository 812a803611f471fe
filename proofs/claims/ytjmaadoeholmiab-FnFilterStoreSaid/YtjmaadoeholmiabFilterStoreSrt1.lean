/- A slice that the library sorts. -/
import Derived.Test.YtjmaadoeholmiabFilterStoreEng1
import Derived.Shelf.SlSortCmp.NoneTotal
set_option linter.unusedVariables false
set_option linter.unusedSimpArgs false
namespace Go.Vs
open Go Go.Proofs Go.Shelf

section
variable {P : Program} {ρr : Ren} {α : Type} [Rp α]
end

section
variable {α : Type} [Rp α]
omit [Rp α] in
theorem Cal2.conv {P : Program} {f : FuncId} {args : List Value} {pre : List Ch} {post post' : Nat → Value → List Ch → Prop} (hc : Cal2 P f args pre post) (k : ∀ m v L, post m v L → ∃ L', post' m v L' ∧ ∀ {S0 : BS} {σ0 σ : St}, Hp S0 σ0 σ L → Hp S0 σ0 σ L') : Cal2 P f args pre post' :=
  ⟨hc.fn, fun σ m hm H => (hc.runs σ m hm H).mono (by
    rintro e w' ⟨v, σ', L, rfl, rfl, hp, H'⟩
    obtain ⟨L', h1, h2⟩ := k m v L hp
    exact ⟨v, σ', L', rfl, rfl, h1, h2 H'⟩)⟩
end
end Go.Vs
