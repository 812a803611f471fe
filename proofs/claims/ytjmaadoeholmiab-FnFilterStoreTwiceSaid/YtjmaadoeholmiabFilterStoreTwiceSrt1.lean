/- A slice that the library sorts. -/
import Derived.Test.YtjmaadoeholmiabFilterStoreTwiceEng1
import Derived.Shelf.SlSortCmp.NoneTotal
set_option linter.unusedVariables false
set_option linter.unusedSimpArgs false
namespace Go.Vs
open Go Go.Proofs Go.Shelf

section
variable {P : Program} {ρr : Ren} {α : Type} [Rp α]
end

section
variable {α : Type} [Rp α]
end
end Go.Vs
