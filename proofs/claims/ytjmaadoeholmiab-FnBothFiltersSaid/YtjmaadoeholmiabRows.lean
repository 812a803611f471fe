/-
  No cell of these rows narrows 'for every input' (looked for: loops, veiled, ifaces, maps, wideKeys, modest, calm, conditions, laid).
  DERIVED. THE GIVEN ROWS OF THIS SEAT. 8 by the template 'for every input the law returns true; each argument reads behind the call as it read before'; 0 by the template 'total and deterministic' (their statements: YtjmaadoeholmiabTotals.lean).
  GIVEN WITH THE SEED: the statements are not yours to turn. If you find one false, say at which input.
  Laid BY PROGRAM, IN A SANDBOX (cutbox-rows.mjs): the forced cells as the released guide's own fill.sh prints them over the translation 3dbb26c04d5cf22f… (all of the seat's roots in one cut). By AI agents, Wed Nov 11 2026. No macro, syntax, notation, axiom, sorry.
-/
import Derived.Test.YtjmaadoeholmiabChecked
import GoSem.Claim
import GoSem.ClaimJoined
import GoSem.ClaimMapViews
import Derived.JoinedTies
import Derived.KernelRfl
namespace Go.Proofs.Ytjmaadoeholmiab
/- THE CELL 'sum', in the pinned program and in every row, IS THE sha256 OF THE DUMP (.gsa) THAT YtjmaadoeholmiabProg.lean LOADS. Nothing in Lean hashes anything: it is a label: what it is worth is what the hold of that sum in a sandbox is worth. -/
noncomputable def Try.pinned : Pinned := { name := "ytjmaadoeholmiab", sum := "3dbb26c04d5cf22ff0858e32b8bc6fd7b18d22a4b8f7b621bb2a6cfd0e7a0eea", checked := Try.checked }
namespace Rows
def none {H : Type} : Left H := { results := [], args := [] }

/-- 'laws.FnFilterStore': WHATEVER THE INPUT: true; the input reads as it did. -/
def fnFilterStoreSpec : ChangeSpec := { name := "fnFilterStore", fn := fun _ => fun
  | [d] => { results := [.lit (.bool true)], args := [d] }
  | _ => none }
def fnFilterStoreRow : OpenClaim := { program := "ytjmaadoeholmiab", sum := "3dbb26c04d5cf22ff0858e32b8bc6fd7b18d22a4b8f7b621bb2a6cfd0e7a0eea", func := "loop.example/vectorstore/laws.FnFilterStore", spec := "fnFilterStore", unfollowed := true, recurses := true, apart := false }
def FnFilterStoreSaid : Prop := fnFilterStoreRow.holds Try.pinned (OpenSpec.ofChange fnFilterStoreSpec)

/-- ITS FALSE NEIGHBOUR: 'it returns false'. Refute it at one input. -/
def fnFilterStoreWrong : ChangeSpec := { name := "fnFilterStore", fn := fun _ => fun
  | [d] => { results := [.lit (.bool false)], args := [d] }
  | _ => none }
def FnFilterStoreWrongFalsely : Prop := fnFilterStoreRow.holds Try.pinned (OpenSpec.ofChange fnFilterStoreWrong)

/-- 'laws.FnFilterStoreTwice': WHATEVER THE INPUT: true; the input reads as it did. -/
def fnFilterStoreTwiceSpec : ChangeSpec := { name := "fnFilterStoreTwice", fn := fun _ => fun
  | [d] => { results := [.lit (.bool true)], args := [d] }
  | _ => none }
def fnFilterStoreTwiceRow : OpenClaim := { program := "ytjmaadoeholmiab", sum := "3dbb26c04d5cf22ff0858e32b8bc6fd7b18d22a4b8f7b621bb2a6cfd0e7a0eea", func := "loop.example/vectorstore/laws.FnFilterStoreTwice", spec := "fnFilterStoreTwice", unfollowed := true, recurses := true, apart := false }
def FnFilterStoreTwiceSaid : Prop := fnFilterStoreTwiceRow.holds Try.pinned (OpenSpec.ofChange fnFilterStoreTwiceSpec)

/-- ITS FALSE NEIGHBOUR: 'it returns false'. Refute it at one input. -/
def fnFilterStoreTwiceWrong : ChangeSpec := { name := "fnFilterStoreTwice", fn := fun _ => fun
  | [d] => { results := [.lit (.bool false)], args := [d] }
  | _ => none }
def FnFilterStoreTwiceWrongFalsely : Prop := fnFilterStoreTwiceRow.holds Try.pinned (OpenSpec.ofChange fnFilterStoreTwiceWrong)

/-- 'laws.FnBothFilters': WHATEVER THE INPUT: true; the input reads as it did. -/
def fnBothFiltersSpec : ChangeSpec := { name := "fnBothFilters", fn := fun _ => fun
  | [d] => { results := [.lit (.bool true)], args := [d] }
  | _ => none }
def fnBothFiltersRow : OpenClaim := { program := "ytjmaadoeholmiab", sum := "3dbb26c04d5cf22ff0858e32b8bc6fd7b18d22a4b8f7b621bb2a6cfd0e7a0eea", func := "loop.example/vectorstore/laws.FnBothFilters", spec := "fnBothFilters", apart := false }
def FnBothFiltersSaid : Prop := fnBothFiltersRow.holds Try.pinned (OpenSpec.ofChange fnBothFiltersSpec)

/-- ITS FALSE NEIGHBOUR: 'it returns false'. Refute it at one input. -/
def fnBothFiltersWrong : ChangeSpec := { name := "fnBothFilters", fn := fun _ => fun
  | [d] => { results := [.lit (.bool false)], args := [d] }
  | _ => none }
def FnBothFiltersWrongFalsely : Prop := fnBothFiltersRow.holds Try.pinned (OpenSpec.ofChange fnBothFiltersWrong)

/-- 'laws.FnBothFiltersOrder': WHATEVER THE INPUT: true; the input reads as it did. -/
def fnBothFiltersOrderSpec : ChangeSpec := { name := "fnBothFiltersOrder", fn := fun _ => fun
  | [d] => { results := [.lit (.bool true)], args := [d] }
  | _ => none }
def fnBothFiltersOrderRow : OpenClaim := { program := "ytjmaadoeholmiab", sum := "3dbb26c04d5cf22ff0858e32b8bc6fd7b18d22a4b8f7b621bb2a6cfd0e7a0eea", func := "loop.example/vectorstore/laws.FnBothFiltersOrder", spec := "fnBothFiltersOrder", apart := false }
def FnBothFiltersOrderSaid : Prop := fnBothFiltersOrderRow.holds Try.pinned (OpenSpec.ofChange fnBothFiltersOrderSpec)

/-- ITS FALSE NEIGHBOUR: 'it returns false'. Refute it at one input. -/
def fnBothFiltersOrderWrong : ChangeSpec := { name := "fnBothFiltersOrder", fn := fun _ => fun
  | [d] => { results := [.lit (.bool false)], args := [d] }
  | _ => none }
def FnBothFiltersOrderWrongFalsely : Prop := fnBothFiltersOrderRow.holds Try.pinned (OpenSpec.ofChange fnBothFiltersOrderWrong)

/-- 'laws.FnLinksOfMore': WHATEVER THE INPUT: true; the input reads as it did. -/
def fnLinksOfMoreSpec : ChangeSpec := { name := "fnLinksOfMore", fn := fun _ => fun
  | [d] => { results := [.lit (.bool true)], args := [d] }
  | _ => none }
def fnLinksOfMoreRow : OpenClaim := { program := "ytjmaadoeholmiab", sum := "3dbb26c04d5cf22ff0858e32b8bc6fd7b18d22a4b8f7b621bb2a6cfd0e7a0eea", func := "loop.example/vectorstore/laws.FnLinksOfMore", spec := "fnLinksOfMore", unfollowed := true, recurses := true, apart := false }
def FnLinksOfMoreSaid : Prop := fnLinksOfMoreRow.holds Try.pinned (OpenSpec.ofChange fnLinksOfMoreSpec)

/-- ITS FALSE NEIGHBOUR: 'it returns false'. Refute it at one input. -/
def fnLinksOfMoreWrong : ChangeSpec := { name := "fnLinksOfMore", fn := fun _ => fun
  | [d] => { results := [.lit (.bool false)], args := [d] }
  | _ => none }
def FnLinksOfMoreWrongFalsely : Prop := fnLinksOfMoreRow.holds Try.pinned (OpenSpec.ofChange fnLinksOfMoreWrong)

/-- 'laws.FnMutualLinksMore': WHATEVER THE INPUT: true; the input reads as it did. -/
def fnMutualLinksMoreSpec : ChangeSpec := { name := "fnMutualLinksMore", fn := fun _ => fun
  | [d] => { results := [.lit (.bool true)], args := [d] }
  | _ => none }
def fnMutualLinksMoreRow : OpenClaim := { program := "ytjmaadoeholmiab", sum := "3dbb26c04d5cf22ff0858e32b8bc6fd7b18d22a4b8f7b621bb2a6cfd0e7a0eea", func := "loop.example/vectorstore/laws.FnMutualLinksMore", spec := "fnMutualLinksMore", unfollowed := true, recurses := true, apart := false }
def FnMutualLinksMoreSaid : Prop := fnMutualLinksMoreRow.holds Try.pinned (OpenSpec.ofChange fnMutualLinksMoreSpec)

/-- ITS FALSE NEIGHBOUR: 'it returns false'. Refute it at one input. -/
def fnMutualLinksMoreWrong : ChangeSpec := { name := "fnMutualLinksMore", fn := fun _ => fun
  | [d] => { results := [.lit (.bool false)], args := [d] }
  | _ => none }
def FnMutualLinksMoreWrongFalsely : Prop := fnMutualLinksMoreRow.holds Try.pinned (OpenSpec.ofChange fnMutualLinksMoreWrong)

/-- 'laws.FnFilterStoreBoth': WHATEVER THE INPUT: true; the input reads as it did. -/
def fnFilterStoreBothSpec : ChangeSpec := { name := "fnFilterStoreBoth", fn := fun _ => fun
  | [d] => { results := [.lit (.bool true)], args := [d] }
  | _ => none }
def fnFilterStoreBothRow : OpenClaim := { program := "ytjmaadoeholmiab", sum := "3dbb26c04d5cf22ff0858e32b8bc6fd7b18d22a4b8f7b621bb2a6cfd0e7a0eea", func := "loop.example/vectorstore/laws.FnFilterStoreBoth", spec := "fnFilterStoreBoth", unfollowed := true, recurses := true, apart := false }
def FnFilterStoreBothSaid : Prop := fnFilterStoreBothRow.holds Try.pinned (OpenSpec.ofChange fnFilterStoreBothSpec)

/-- ITS FALSE NEIGHBOUR: 'it returns false'. Refute it at one input. -/
def fnFilterStoreBothWrong : ChangeSpec := { name := "fnFilterStoreBoth", fn := fun _ => fun
  | [d] => { results := [.lit (.bool false)], args := [d] }
  | _ => none }
def FnFilterStoreBothWrongFalsely : Prop := fnFilterStoreBothRow.holds Try.pinned (OpenSpec.ofChange fnFilterStoreBothWrong)

/-- 'laws.FnExactValidFilter': WHATEVER THE INPUT: true; the input reads as it did. -/
def fnExactValidFilterSpec : ChangeSpec := { name := "fnExactValidFilter", fn := fun _ => fun
  | [d] => { results := [.lit (.bool true)], args := [d] }
  | _ => none }
def fnExactValidFilterRow : OpenClaim := { program := "ytjmaadoeholmiab", sum := "3dbb26c04d5cf22ff0858e32b8bc6fd7b18d22a4b8f7b621bb2a6cfd0e7a0eea", func := "loop.example/vectorstore/laws.FnExactValidFilter", spec := "fnExactValidFilter", apart := false }
def FnExactValidFilterSaid : Prop := fnExactValidFilterRow.holds Try.pinned (OpenSpec.ofChange fnExactValidFilterSpec)

/-- ITS FALSE NEIGHBOUR: 'it returns false'. Refute it at one input. -/
def fnExactValidFilterWrong : ChangeSpec := { name := "fnExactValidFilter", fn := fun _ => fun
  | [d] => { results := [.lit (.bool false)], args := [d] }
  | _ => none }
def FnExactValidFilterWrongFalsely : Prop := fnExactValidFilterRow.holds Try.pinned (OpenSpec.ofChange fnExactValidFilterWrong)

/- THE SECOND FORM. 'bulk': how many values and letters a reading holds, each counted each time it is reached (what is shared counts as often as it is met; a slice's spare places count too). A statement '..UptoSaid' is the law's where the arguments, and the package variables that the reading takes, are together of bulk at most 1048576: NARROWER than '..Said'. Prove '..Said' where nothing that the law and all that it calls make is longer than what came in: it says more and counts as full. Else prove '..UptoSaid'. A law counts once. -/
mutual
def uptoBulk {H : Type} : DataW H → Nat
  | .lit (.string bytes) => bytes.length + 1
  | .lit _ => 1
  | .nil => 1
  | .ptr d => uptoBulk d + 1
  | .slice elems spare => uptoBulkAll elems + uptoBulkAll spare + 1
  | .agg parts => uptoBulkAll parts + 1
  | .iface _ d => uptoBulk d + 1
  | .map entries => uptoBulkEntries entries + 1
  | .held _ => 1
def uptoBulkAll {H : Type} : List (DataW H) → Nat
  | [] => 0
  | d :: r => uptoBulk d + uptoBulkAll r
def uptoBulkEntries {H : Type} : List (Lit × DataW H) → Nat
  | [] => 0
  | x :: r => uptoBulkEntry x + uptoBulkEntries r
def uptoBulkEntry {H : Type} : Lit × DataW H → Nat
  | (.string bytes, d) => bytes.length + uptoBulk d + 1
  | (_, d) => uptoBulk d + 1
 end
def uptoSmall : (H : Type) → List (DataW H) → Bool := fun _ ds => decide (uptoBulkAll ds ≤ 1048576)
def OpenSpec.upto (s : _root_.Go.ChangeSpec) : _root_.Go.OpenSpec := { _root_.Go.OpenSpec.ofChange s with cond := some uptoSmall }

/-- 'laws.FnFilterStore', WHERE WHAT IT READS IS OF BULK AT MOST 1048576: true; the input reads as it did. -/
def fnFilterStoreUptoRow : OpenClaim := { program := "ytjmaadoeholmiab", sum := "3dbb26c04d5cf22ff0858e32b8bc6fd7b18d22a4b8f7b621bb2a6cfd0e7a0eea", func := "loop.example/vectorstore/laws.FnFilterStore", spec := "fnFilterStore", unfollowed := true, recurses := true, apart := false, narrowed := true }
def FnFilterStoreUptoSaid : Prop := fnFilterStoreUptoRow.holds Try.pinned (OpenSpec.upto fnFilterStoreSpec)

/-- 'laws.FnFilterStoreTwice', WHERE WHAT IT READS IS OF BULK AT MOST 1048576: true; the input reads as it did. -/
def fnFilterStoreTwiceUptoRow : OpenClaim := { program := "ytjmaadoeholmiab", sum := "3dbb26c04d5cf22ff0858e32b8bc6fd7b18d22a4b8f7b621bb2a6cfd0e7a0eea", func := "loop.example/vectorstore/laws.FnFilterStoreTwice", spec := "fnFilterStoreTwice", unfollowed := true, recurses := true, apart := false, narrowed := true }
def FnFilterStoreTwiceUptoSaid : Prop := fnFilterStoreTwiceUptoRow.holds Try.pinned (OpenSpec.upto fnFilterStoreTwiceSpec)

/-- 'laws.FnBothFilters', WHERE WHAT IT READS IS OF BULK AT MOST 1048576: true; the input reads as it did. -/
def fnBothFiltersUptoRow : OpenClaim := { program := "ytjmaadoeholmiab", sum := "3dbb26c04d5cf22ff0858e32b8bc6fd7b18d22a4b8f7b621bb2a6cfd0e7a0eea", func := "loop.example/vectorstore/laws.FnBothFilters", spec := "fnBothFilters", apart := false, narrowed := true }
def FnBothFiltersUptoSaid : Prop := fnBothFiltersUptoRow.holds Try.pinned (OpenSpec.upto fnBothFiltersSpec)

/-- 'laws.FnBothFiltersOrder', WHERE WHAT IT READS IS OF BULK AT MOST 1048576: true; the input reads as it did. -/
def fnBothFiltersOrderUptoRow : OpenClaim := { program := "ytjmaadoeholmiab", sum := "3dbb26c04d5cf22ff0858e32b8bc6fd7b18d22a4b8f7b621bb2a6cfd0e7a0eea", func := "loop.example/vectorstore/laws.FnBothFiltersOrder", spec := "fnBothFiltersOrder", apart := false, narrowed := true }
def FnBothFiltersOrderUptoSaid : Prop := fnBothFiltersOrderUptoRow.holds Try.pinned (OpenSpec.upto fnBothFiltersOrderSpec)

/-- 'laws.FnLinksOfMore', WHERE WHAT IT READS IS OF BULK AT MOST 1048576: true; the input reads as it did. -/
def fnLinksOfMoreUptoRow : OpenClaim := { program := "ytjmaadoeholmiab", sum := "3dbb26c04d5cf22ff0858e32b8bc6fd7b18d22a4b8f7b621bb2a6cfd0e7a0eea", func := "loop.example/vectorstore/laws.FnLinksOfMore", spec := "fnLinksOfMore", unfollowed := true, recurses := true, apart := false, narrowed := true }
def FnLinksOfMoreUptoSaid : Prop := fnLinksOfMoreUptoRow.holds Try.pinned (OpenSpec.upto fnLinksOfMoreSpec)

/-- 'laws.FnMutualLinksMore', WHERE WHAT IT READS IS OF BULK AT MOST 1048576: true; the input reads as it did. -/
def fnMutualLinksMoreUptoRow : OpenClaim := { program := "ytjmaadoeholmiab", sum := "3dbb26c04d5cf22ff0858e32b8bc6fd7b18d22a4b8f7b621bb2a6cfd0e7a0eea", func := "loop.example/vectorstore/laws.FnMutualLinksMore", spec := "fnMutualLinksMore", unfollowed := true, recurses := true, apart := false, narrowed := true }
def FnMutualLinksMoreUptoSaid : Prop := fnMutualLinksMoreUptoRow.holds Try.pinned (OpenSpec.upto fnMutualLinksMoreSpec)

/-- 'laws.FnFilterStoreBoth', WHERE WHAT IT READS IS OF BULK AT MOST 1048576: true; the input reads as it did. -/
def fnFilterStoreBothUptoRow : OpenClaim := { program := "ytjmaadoeholmiab", sum := "3dbb26c04d5cf22ff0858e32b8bc6fd7b18d22a4b8f7b621bb2a6cfd0e7a0eea", func := "loop.example/vectorstore/laws.FnFilterStoreBoth", spec := "fnFilterStoreBoth", unfollowed := true, recurses := true, apart := false, narrowed := true }
def FnFilterStoreBothUptoSaid : Prop := fnFilterStoreBothUptoRow.holds Try.pinned (OpenSpec.upto fnFilterStoreBothSpec)

/-- 'laws.FnExactValidFilter', WHERE WHAT IT READS IS OF BULK AT MOST 1048576: true; the input reads as it did. -/
def fnExactValidFilterUptoRow : OpenClaim := { program := "ytjmaadoeholmiab", sum := "3dbb26c04d5cf22ff0858e32b8bc6fd7b18d22a4b8f7b621bb2a6cfd0e7a0eea", func := "loop.example/vectorstore/laws.FnExactValidFilter", spec := "fnExactValidFilter", apart := false, narrowed := true }
def FnExactValidFilterUptoSaid : Prop := fnExactValidFilterUptoRow.holds Try.pinned (OpenSpec.upto fnExactValidFilterSpec)

end Rows
end Go.Proofs.Ytjmaadoeholmiab
