/-
  No cell of these rows narrows 'for every input' (looked for: loops, veiled, ifaces, maps, wideKeys, modest, calm, conditions, laid).
  DERIVED. THE GIVEN ROWS OF THIS SEAT. 7 by the template 'for every input the law returns true; each argument reads behind the call as it read before'; 0 by the template 'total and deterministic' (their statements: YtjmaadoeholmiacTotals.lean).
  GIVEN WITH THE SEED: the statements are not yours to turn. If you find one false, say at which input.
  Laid BY PROGRAM, IN A SANDBOX (cutbox-rows.mjs): the forced cells as the released guide's own fill.sh prints them over the translation 6df25001416991e1… (all of the seat's roots in one cut). By AI agents, Wed Nov 11 2026. No macro, syntax, notation, axiom, sorry.
-/
import Derived.Test.YtjmaadoeholmiacChecked
import GoSem.Claim
import GoSem.ClaimJoined
import GoSem.ClaimMapViews
import Derived.JoinedTies
import Derived.KernelRfl
namespace Go.Proofs.Ytjmaadoeholmiac
/- THE CELL 'sum', in the pinned program and in every row, IS THE sha256 OF THE DUMP (.gsa) THAT YtjmaadoeholmiacProg.lean LOADS. Nothing in Lean hashes anything: it is a label: what it is worth is what the hold of that sum in a sandbox is worth. -/
noncomputable def Try.pinned : Pinned := { name := "ytjmaadoeholmiac", sum := "6df25001416991e10cb975df58c37a93cc837dcd0e72db98eedfef0aaca2339c", checked := Try.checked }
namespace Rows
def none {H : Type} : Left H := { results := [], args := [] }

/-- 'laws.FnExactPasses': WHATEVER THE INPUT: true; the input reads as it did. -/
def fnExactPassesSpec : ChangeSpec := { name := "fnExactPasses", fn := fun _ => fun
  | [d1, d2] => { results := [.lit (.bool true)], args := [d1, d2] }
  | _ => none }
def fnExactPassesRow : OpenClaim := { program := "ytjmaadoeholmiac", sum := "6df25001416991e10cb975df58c37a93cc837dcd0e72db98eedfef0aaca2339c", func := "loop.example/vectorstore/laws.FnExactPasses", spec := "fnExactPasses", apart := false }
def FnExactPassesSaid : Prop := fnExactPassesRow.holds Try.pinned (OpenSpec.ofChange fnExactPassesSpec)

/-- ITS FALSE NEIGHBOUR: 'it returns false'. Refute it at one input. -/
def fnExactPassesWrong : ChangeSpec := { name := "fnExactPasses", fn := fun _ => fun
  | [d1, d2] => { results := [.lit (.bool false)], args := [d1, d2] }
  | _ => none }
def FnExactPassesWrongFalsely : Prop := fnExactPassesRow.holds Try.pinned (OpenSpec.ofChange fnExactPassesWrong)

/-- 'laws.FnExactFilterStore': WHATEVER THE INPUT: true; the input reads as it did. -/
def fnExactFilterStoreSpec : ChangeSpec := { name := "fnExactFilterStore", fn := fun _ => fun
  | [d1, d2] => { results := [.lit (.bool true)], args := [d1, d2] }
  | _ => none }
def fnExactFilterStoreRow : OpenClaim := { program := "ytjmaadoeholmiac", sum := "6df25001416991e10cb975df58c37a93cc837dcd0e72db98eedfef0aaca2339c", func := "loop.example/vectorstore/laws.FnExactFilterStore", spec := "fnExactFilterStore", unfollowed := true, recurses := true, apart := false }
def FnExactFilterStoreSaid : Prop := fnExactFilterStoreRow.holds Try.pinned (OpenSpec.ofChange fnExactFilterStoreSpec)

/-- ITS FALSE NEIGHBOUR: 'it returns false'. Refute it at one input. -/
def fnExactFilterStoreWrong : ChangeSpec := { name := "fnExactFilterStore", fn := fun _ => fun
  | [d1, d2] => { results := [.lit (.bool false)], args := [d1, d2] }
  | _ => none }
def FnExactFilterStoreWrongFalsely : Prop := fnExactFilterStoreRow.holds Try.pinned (OpenSpec.ofChange fnExactFilterStoreWrong)

/-- 'laws.FnExactFilterNearest': WHATEVER THE INPUT: true; the input reads as it did. -/
def fnExactFilterNearestSpec : ChangeSpec := { name := "fnExactFilterNearest", fn := fun _ => fun
  | [d1, d2, d3, d4, d5] => { results := [.lit (.bool true)], args := [d1, d2, d3, d4, d5] }
  | _ => none }
def fnExactFilterNearestRow : OpenClaim := { program := "ytjmaadoeholmiac", sum := "6df25001416991e10cb975df58c37a93cc837dcd0e72db98eedfef0aaca2339c", func := "loop.example/vectorstore/laws.FnExactFilterNearest", spec := "fnExactFilterNearest", unfollowed := true, recurses := true, apart := false }
def FnExactFilterNearestSaid : Prop := fnExactFilterNearestRow.holds Try.pinned (OpenSpec.ofChange fnExactFilterNearestSpec)

/-- ITS FALSE NEIGHBOUR: 'it returns false'. Refute it at one input. -/
def fnExactFilterNearestWrong : ChangeSpec := { name := "fnExactFilterNearest", fn := fun _ => fun
  | [d1, d2, d3, d4, d5] => { results := [.lit (.bool false)], args := [d1, d2, d3, d4, d5] }
  | _ => none }
def FnExactFilterNearestWrongFalsely : Prop := fnExactFilterNearestRow.holds Try.pinned (OpenSpec.ofChange fnExactFilterNearestWrong)

/-- 'laws.FnExactBothFilters': WHATEVER THE INPUT: true; the input reads as it did. -/
def fnExactBothFiltersSpec : ChangeSpec := { name := "fnExactBothFilters", fn := fun _ => fun
  | [d1, d2] => { results := [.lit (.bool true)], args := [d1, d2] }
  | _ => none }
def fnExactBothFiltersRow : OpenClaim := { program := "ytjmaadoeholmiac", sum := "6df25001416991e10cb975df58c37a93cc837dcd0e72db98eedfef0aaca2339c", func := "loop.example/vectorstore/laws.FnExactBothFilters", spec := "fnExactBothFilters", apart := false }
def FnExactBothFiltersSaid : Prop := fnExactBothFiltersRow.holds Try.pinned (OpenSpec.ofChange fnExactBothFiltersSpec)

/-- ITS FALSE NEIGHBOUR: 'it returns false'. Refute it at one input. -/
def fnExactBothFiltersWrong : ChangeSpec := { name := "fnExactBothFilters", fn := fun _ => fun
  | [d1, d2] => { results := [.lit (.bool false)], args := [d1, d2] }
  | _ => none }
def FnExactBothFiltersWrongFalsely : Prop := fnExactBothFiltersRow.holds Try.pinned (OpenSpec.ofChange fnExactBothFiltersWrong)

/-- 'laws.FnExactLinksOf': WHATEVER THE INPUT: true; the input reads as it did. -/
def fnExactLinksOfSpec : ChangeSpec := { name := "fnExactLinksOf", fn := fun _ => fun
  | [d1, d2, d3] => { results := [.lit (.bool true)], args := [d1, d2, d3] }
  | _ => none }
def fnExactLinksOfRow : OpenClaim := { program := "ytjmaadoeholmiac", sum := "6df25001416991e10cb975df58c37a93cc837dcd0e72db98eedfef0aaca2339c", func := "loop.example/vectorstore/laws.FnExactLinksOf", spec := "fnExactLinksOf", unfollowed := true, recurses := true, apart := false }
def FnExactLinksOfSaid : Prop := fnExactLinksOfRow.holds Try.pinned (OpenSpec.ofChange fnExactLinksOfSpec)

/-- ITS FALSE NEIGHBOUR: 'it returns false'. Refute it at one input. -/
def fnExactLinksOfWrong : ChangeSpec := { name := "fnExactLinksOf", fn := fun _ => fun
  | [d1, d2, d3] => { results := [.lit (.bool false)], args := [d1, d2, d3] }
  | _ => none }
def FnExactLinksOfWrongFalsely : Prop := fnExactLinksOfRow.holds Try.pinned (OpenSpec.ofChange fnExactLinksOfWrong)

/-- 'laws.FnExactReachedFrom': WHATEVER THE INPUT: true; the input reads as it did. -/
def fnExactReachedFromSpec : ChangeSpec := { name := "fnExactReachedFrom", fn := fun _ => fun
  | [d1, d2, d3, d4] => { results := [.lit (.bool true)], args := [d1, d2, d3, d4] }
  | _ => none }
def fnExactReachedFromRow : OpenClaim := { program := "ytjmaadoeholmiac", sum := "6df25001416991e10cb975df58c37a93cc837dcd0e72db98eedfef0aaca2339c", func := "loop.example/vectorstore/laws.FnExactReachedFrom", spec := "fnExactReachedFrom", unfollowed := true, recurses := true, apart := false }
def FnExactReachedFromSaid : Prop := fnExactReachedFromRow.holds Try.pinned (OpenSpec.ofChange fnExactReachedFromSpec)

/-- ITS FALSE NEIGHBOUR: 'it returns false'. Refute it at one input. -/
def fnExactReachedFromWrong : ChangeSpec := { name := "fnExactReachedFrom", fn := fun _ => fun
  | [d1, d2, d3, d4] => { results := [.lit (.bool false)], args := [d1, d2, d3, d4] }
  | _ => none }
def FnExactReachedFromWrongFalsely : Prop := fnExactReachedFromRow.holds Try.pinned (OpenSpec.ofChange fnExactReachedFromWrong)

/-- 'laws.FnExactMutualLinks': WHATEVER THE INPUT: true; the input reads as it did. -/
def fnExactMutualLinksSpec : ChangeSpec := { name := "fnExactMutualLinks", fn := fun _ => fun
  | [d1, d2, d3] => { results := [.lit (.bool true)], args := [d1, d2, d3] }
  | _ => none }
def fnExactMutualLinksRow : OpenClaim := { program := "ytjmaadoeholmiac", sum := "6df25001416991e10cb975df58c37a93cc837dcd0e72db98eedfef0aaca2339c", func := "loop.example/vectorstore/laws.FnExactMutualLinks", spec := "fnExactMutualLinks", unfollowed := true, recurses := true, apart := false }
def FnExactMutualLinksSaid : Prop := fnExactMutualLinksRow.holds Try.pinned (OpenSpec.ofChange fnExactMutualLinksSpec)

/-- ITS FALSE NEIGHBOUR: 'it returns false'. Refute it at one input. -/
def fnExactMutualLinksWrong : ChangeSpec := { name := "fnExactMutualLinks", fn := fun _ => fun
  | [d1, d2, d3] => { results := [.lit (.bool false)], args := [d1, d2, d3] }
  | _ => none }
def FnExactMutualLinksWrongFalsely : Prop := fnExactMutualLinksRow.holds Try.pinned (OpenSpec.ofChange fnExactMutualLinksWrong)

/- THE SECOND FORM. 'bulk': how many values and letters a reading holds, each counted each time it is reached (what is shared counts as often as it is met; a slice's spare places count too). A statement '..UptoSaid' is the law's where the arguments, and the package variables that the reading takes, are together of bulk at most 1048576: NARROWER than '..Said'. Prove '..Said' where nothing that the law and all that it calls make is longer than what came in: it says more and counts as full. Else prove '..UptoSaid'. A law counts once. -/
mutual
def uptoBulk {H : Type} : DataW H → Nat
  | .lit (.string bytes) => bytes.length + 1
  | .lit _ => 1
  | .nil => 1
  | .ptr d => uptoBulk d + 1
  | .slice elems spare => uptoBulkAll elems + uptoBulkAll spare + 1
  | .agg parts => uptoBulkAll parts + 1
  | .iface _ d => uptoBulk d + 1
  | .map entries => uptoBulkEntries entries + 1
  | .held _ => 1
def uptoBulkAll {H : Type} : List (DataW H) → Nat
  | [] => 0
  | d :: r => uptoBulk d + uptoBulkAll r
def uptoBulkEntries {H : Type} : List (Lit × DataW H) → Nat
  | [] => 0
  | x :: r => uptoBulkEntry x + uptoBulkEntries r
def uptoBulkEntry {H : Type} : Lit × DataW H → Nat
  | (.string bytes, d) => bytes.length + uptoBulk d + 1
  | (_, d) => uptoBulk d + 1
 end
def uptoSmall : (H : Type) → List (DataW H) → Bool := fun _ ds => decide (uptoBulkAll ds ≤ 1048576)
def OpenSpec.upto (s : _root_.Go.ChangeSpec) : _root_.Go.OpenSpec := { _root_.Go.OpenSpec.ofChange s with cond := some uptoSmall }

/-- 'laws.FnExactPasses', WHERE WHAT IT READS IS OF BULK AT MOST 1048576: true; the input reads as it did. -/
def fnExactPassesUptoRow : OpenClaim := { program := "ytjmaadoeholmiac", sum := "6df25001416991e10cb975df58c37a93cc837dcd0e72db98eedfef0aaca2339c", func := "loop.example/vectorstore/laws.FnExactPasses", spec := "fnExactPasses", apart := false, narrowed := true }
def FnExactPassesUptoSaid : Prop := fnExactPassesUptoRow.holds Try.pinned (OpenSpec.upto fnExactPassesSpec)

/-- 'laws.FnExactFilterStore', WHERE WHAT IT READS IS OF BULK AT MOST 1048576: true; the input reads as it did. -/
def fnExactFilterStoreUptoRow : OpenClaim := { program := "ytjmaadoeholmiac", sum := "6df25001416991e10cb975df58c37a93cc837dcd0e72db98eedfef0aaca2339c", func := "loop.example/vectorstore/laws.FnExactFilterStore", spec := "fnExactFilterStore", unfollowed := true, recurses := true, apart := false, narrowed := true }
def FnExactFilterStoreUptoSaid : Prop := fnExactFilterStoreUptoRow.holds Try.pinned (OpenSpec.upto fnExactFilterStoreSpec)

/-- 'laws.FnExactFilterNearest', WHERE WHAT IT READS IS OF BULK AT MOST 1048576: true; the input reads as it did. -/
def fnExactFilterNearestUptoRow : OpenClaim := { program := "ytjmaadoeholmiac", sum := "6df25001416991e10cb975df58c37a93cc837dcd0e72db98eedfef0aaca2339c", func := "loop.example/vectorstore/laws.FnExactFilterNearest", spec := "fnExactFilterNearest", unfollowed := true, recurses := true, apart := false, narrowed := true }
def FnExactFilterNearestUptoSaid : Prop := fnExactFilterNearestUptoRow.holds Try.pinned (OpenSpec.upto fnExactFilterNearestSpec)

/-- 'laws.FnExactBothFilters', WHERE WHAT IT READS IS OF BULK AT MOST 1048576: true; the input reads as it did. -/
def fnExactBothFiltersUptoRow : OpenClaim := { program := "ytjmaadoeholmiac", sum := "6df25001416991e10cb975df58c37a93cc837dcd0e72db98eedfef0aaca2339c", func := "loop.example/vectorstore/laws.FnExactBothFilters", spec := "fnExactBothFilters", apart := false, narrowed := true }
def FnExactBothFiltersUptoSaid : Prop := fnExactBothFiltersUptoRow.holds Try.pinned (OpenSpec.upto fnExactBothFiltersSpec)

/-- 'laws.FnExactLinksOf', WHERE WHAT IT READS IS OF BULK AT MOST 1048576: true; the input reads as it did. -/
def fnExactLinksOfUptoRow : OpenClaim := { program := "ytjmaadoeholmiac", sum := "6df25001416991e10cb975df58c37a93cc837dcd0e72db98eedfef0aaca2339c", func := "loop.example/vectorstore/laws.FnExactLinksOf", spec := "fnExactLinksOf", unfollowed := true, recurses := true, apart := false, narrowed := true }
def FnExactLinksOfUptoSaid : Prop := fnExactLinksOfUptoRow.holds Try.pinned (OpenSpec.upto fnExactLinksOfSpec)

/-- 'laws.FnExactReachedFrom', WHERE WHAT IT READS IS OF BULK AT MOST 1048576: true; the input reads as it did. -/
def fnExactReachedFromUptoRow : OpenClaim := { program := "ytjmaadoeholmiac", sum := "6df25001416991e10cb975df58c37a93cc837dcd0e72db98eedfef0aaca2339c", func := "loop.example/vectorstore/laws.FnExactReachedFrom", spec := "fnExactReachedFrom", unfollowed := true, recurses := true, apart := false, narrowed := true }
def FnExactReachedFromUptoSaid : Prop := fnExactReachedFromUptoRow.holds Try.pinned (OpenSpec.upto fnExactReachedFromSpec)

/-- 'laws.FnExactMutualLinks', WHERE WHAT IT READS IS OF BULK AT MOST 1048576: true; the input reads as it did. -/
def fnExactMutualLinksUptoRow : OpenClaim := { program := "ytjmaadoeholmiac", sum := "6df25001416991e10cb975df58c37a93cc837dcd0e72db98eedfef0aaca2339c", func := "loop.example/vectorstore/laws.FnExactMutualLinks", spec := "fnExactMutualLinks", unfollowed := true, recurses := true, apart := false, narrowed := true }
def FnExactMutualLinksUptoSaid : Prop := fnExactMutualLinksUptoRow.holds Try.pinned (OpenSpec.upto fnExactMutualLinksSpec)

end Rows
end Go.Proofs.Ytjmaadoeholmiac
