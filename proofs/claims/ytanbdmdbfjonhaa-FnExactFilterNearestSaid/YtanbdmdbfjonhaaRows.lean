/-
  No cell of these rows narrows 'for every input' (looked for: loops, veiled, ifaces, maps, wideKeys, modest, calm, conditions, laid).
  DERIVED. THE GIVEN ROWS OF THIS SEAT. 9 by the template 'for every input the law returns true; each argument reads behind the call as it read before'; 0 by the template 'total and deterministic' (their statements: YtanbdmdbfjonhaaTotals.lean).
  GIVEN WITH THE SEED: the statements are not yours to turn. If you find one false, say at which input.
  Laid BY PROGRAM, IN A SANDBOX (cutbox-rows.mjs): the forced cells as the released guide's own fill.sh prints them over the translation f9ef29dad69339dd… (all of the seat's roots in one cut). By AI agents, Wed Nov 11 2026. No macro, syntax, notation, axiom, sorry.
-/
import Derived.Test.YtanbdmdbfjonhaaChecked
import GoSem.Claim
import GoSem.ClaimJoined
import GoSem.ClaimMapViews
import Derived.JoinedTies
import Derived.KernelRfl
namespace Go.Proofs.Ytanbdmdbfjonhaa
/- THE CELL 'sum', in the pinned program and in every row, IS THE sha256 OF THE DUMP (.gsa) THAT YtanbdmdbfjonhaaProg.lean LOADS. Nothing in Lean hashes anything: it is a label: what it is worth is what the hold of that sum in a sandbox is worth. -/
noncomputable def Try.pinned : Pinned := { name := "ytanbdmdbfjonhaa", sum := "f9ef29dad69339ddd7c87a1a393e814df8166fc2224ac4532fe805be917db1c5", checked := Try.checked }
namespace Rows
def none {H : Type} : Left H := { results := [], args := [] }

/-- 'laws.FnMutualLinks': WHATEVER THE INPUT: true; the input reads as it did. -/
def fnMutualLinksSpec : ChangeSpec := { name := "fnMutualLinks", fn := fun _ => fun
  | [d] => { results := [.lit (.bool true)], args := [d] }
  | _ => none }
def fnMutualLinksRow : OpenClaim := { program := "ytanbdmdbfjonhaa", sum := "f9ef29dad69339ddd7c87a1a393e814df8166fc2224ac4532fe805be917db1c5", func := "loop.example/vectorstore/laws.FnMutualLinks", spec := "fnMutualLinks", unfollowed := true, recurses := true, apart := false }
def FnMutualLinksSaid : Prop := fnMutualLinksRow.holds Try.pinned (OpenSpec.ofChange fnMutualLinksSpec)

/-- ITS FALSE NEIGHBOUR: 'it returns false'. Refute it at one input. -/
def fnMutualLinksWrong : ChangeSpec := { name := "fnMutualLinks", fn := fun _ => fun
  | [d] => { results := [.lit (.bool false)], args := [d] }
  | _ => none }
def FnMutualLinksWrongFalsely : Prop := fnMutualLinksRow.holds Try.pinned (OpenSpec.ofChange fnMutualLinksWrong)

/-- 'laws.FnMutualLinksClosest': WHATEVER THE INPUT: true; the input reads as it did. -/
def fnMutualLinksClosestSpec : ChangeSpec := { name := "fnMutualLinksClosest", fn := fun _ => fun
  | [d] => { results := [.lit (.bool true)], args := [d] }
  | _ => none }
def fnMutualLinksClosestRow : OpenClaim := { program := "ytanbdmdbfjonhaa", sum := "f9ef29dad69339ddd7c87a1a393e814df8166fc2224ac4532fe805be917db1c5", func := "loop.example/vectorstore/laws.FnMutualLinksClosest", spec := "fnMutualLinksClosest", unfollowed := true, recurses := true, apart := false }
def FnMutualLinksClosestSaid : Prop := fnMutualLinksClosestRow.holds Try.pinned (OpenSpec.ofChange fnMutualLinksClosestSpec)

/-- ITS FALSE NEIGHBOUR: 'it returns false'. Refute it at one input. -/
def fnMutualLinksClosestWrong : ChangeSpec := { name := "fnMutualLinksClosest", fn := fun _ => fun
  | [d] => { results := [.lit (.bool false)], args := [d] }
  | _ => none }
def FnMutualLinksClosestWrongFalsely : Prop := fnMutualLinksClosestRow.holds Try.pinned (OpenSpec.ofChange fnMutualLinksClosestWrong)

/-- 'laws.FnFilterStore': WHATEVER THE INPUT: true; the input reads as it did. -/
def fnFilterStoreSpec : ChangeSpec := { name := "fnFilterStore", fn := fun _ => fun
  | [d] => { results := [.lit (.bool true)], args := [d] }
  | _ => none }
def fnFilterStoreRow : OpenClaim := { program := "ytanbdmdbfjonhaa", sum := "f9ef29dad69339ddd7c87a1a393e814df8166fc2224ac4532fe805be917db1c5", func := "loop.example/vectorstore/laws.FnFilterStore", spec := "fnFilterStore", unfollowed := true, recurses := true, apart := false }
def FnFilterStoreSaid : Prop := fnFilterStoreRow.holds Try.pinned (OpenSpec.ofChange fnFilterStoreSpec)

/-- ITS FALSE NEIGHBOUR: 'it returns false'. Refute it at one input. -/
def fnFilterStoreWrong : ChangeSpec := { name := "fnFilterStore", fn := fun _ => fun
  | [d] => { results := [.lit (.bool false)], args := [d] }
  | _ => none }
def FnFilterStoreWrongFalsely : Prop := fnFilterStoreRow.holds Try.pinned (OpenSpec.ofChange fnFilterStoreWrong)

/-- 'laws.FnFilterStoreTwice': WHATEVER THE INPUT: true; the input reads as it did. -/
def fnFilterStoreTwiceSpec : ChangeSpec := { name := "fnFilterStoreTwice", fn := fun _ => fun
  | [d] => { results := [.lit (.bool true)], args := [d] }
  | _ => none }
def fnFilterStoreTwiceRow : OpenClaim := { program := "ytanbdmdbfjonhaa", sum := "f9ef29dad69339ddd7c87a1a393e814df8166fc2224ac4532fe805be917db1c5", func := "loop.example/vectorstore/laws.FnFilterStoreTwice", spec := "fnFilterStoreTwice", unfollowed := true, recurses := true, apart := false }
def FnFilterStoreTwiceSaid : Prop := fnFilterStoreTwiceRow.holds Try.pinned (OpenSpec.ofChange fnFilterStoreTwiceSpec)

/-- ITS FALSE NEIGHBOUR: 'it returns false'. Refute it at one input. -/
def fnFilterStoreTwiceWrong : ChangeSpec := { name := "fnFilterStoreTwice", fn := fun _ => fun
  | [d] => { results := [.lit (.bool false)], args := [d] }
  | _ => none }
def FnFilterStoreTwiceWrongFalsely : Prop := fnFilterStoreTwiceRow.holds Try.pinned (OpenSpec.ofChange fnFilterStoreTwiceWrong)

/-- 'laws.FnMutualLinksMore': WHATEVER THE INPUT: true; the input reads as it did. -/
def fnMutualLinksMoreSpec : ChangeSpec := { name := "fnMutualLinksMore", fn := fun _ => fun
  | [d] => { results := [.lit (.bool true)], args := [d] }
  | _ => none }
def fnMutualLinksMoreRow : OpenClaim := { program := "ytanbdmdbfjonhaa", sum := "f9ef29dad69339ddd7c87a1a393e814df8166fc2224ac4532fe805be917db1c5", func := "loop.example/vectorstore/laws.FnMutualLinksMore", spec := "fnMutualLinksMore", unfollowed := true, recurses := true, apart := false }
def FnMutualLinksMoreSaid : Prop := fnMutualLinksMoreRow.holds Try.pinned (OpenSpec.ofChange fnMutualLinksMoreSpec)

/-- ITS FALSE NEIGHBOUR: 'it returns false'. Refute it at one input. -/
def fnMutualLinksMoreWrong : ChangeSpec := { name := "fnMutualLinksMore", fn := fun _ => fun
  | [d] => { results := [.lit (.bool false)], args := [d] }
  | _ => none }
def FnMutualLinksMoreWrongFalsely : Prop := fnMutualLinksMoreRow.holds Try.pinned (OpenSpec.ofChange fnMutualLinksMoreWrong)

/-- 'laws.FnFilterStoreBoth': WHATEVER THE INPUT: true; the input reads as it did. -/
def fnFilterStoreBothSpec : ChangeSpec := { name := "fnFilterStoreBoth", fn := fun _ => fun
  | [d] => { results := [.lit (.bool true)], args := [d] }
  | _ => none }
def fnFilterStoreBothRow : OpenClaim := { program := "ytanbdmdbfjonhaa", sum := "f9ef29dad69339ddd7c87a1a393e814df8166fc2224ac4532fe805be917db1c5", func := "loop.example/vectorstore/laws.FnFilterStoreBoth", spec := "fnFilterStoreBoth", unfollowed := true, recurses := true, apart := false }
def FnFilterStoreBothSaid : Prop := fnFilterStoreBothRow.holds Try.pinned (OpenSpec.ofChange fnFilterStoreBothSpec)

/-- ITS FALSE NEIGHBOUR: 'it returns false'. Refute it at one input. -/
def fnFilterStoreBothWrong : ChangeSpec := { name := "fnFilterStoreBoth", fn := fun _ => fun
  | [d] => { results := [.lit (.bool false)], args := [d] }
  | _ => none }
def FnFilterStoreBothWrongFalsely : Prop := fnFilterStoreBothRow.holds Try.pinned (OpenSpec.ofChange fnFilterStoreBothWrong)

/-- 'laws.FnExactFilterStore': WHATEVER THE INPUT: true; the input reads as it did. -/
def fnExactFilterStoreSpec : ChangeSpec := { name := "fnExactFilterStore", fn := fun _ => fun
  | [d1, d2] => { results := [.lit (.bool true)], args := [d1, d2] }
  | _ => none }
def fnExactFilterStoreRow : OpenClaim := { program := "ytanbdmdbfjonhaa", sum := "f9ef29dad69339ddd7c87a1a393e814df8166fc2224ac4532fe805be917db1c5", func := "loop.example/vectorstore/laws.FnExactFilterStore", spec := "fnExactFilterStore", unfollowed := true, recurses := true, apart := false }
def FnExactFilterStoreSaid : Prop := fnExactFilterStoreRow.holds Try.pinned (OpenSpec.ofChange fnExactFilterStoreSpec)

/-- ITS FALSE NEIGHBOUR: 'it returns false'. Refute it at one input. -/
def fnExactFilterStoreWrong : ChangeSpec := { name := "fnExactFilterStore", fn := fun _ => fun
  | [d1, d2] => { results := [.lit (.bool false)], args := [d1, d2] }
  | _ => none }
def FnExactFilterStoreWrongFalsely : Prop := fnExactFilterStoreRow.holds Try.pinned (OpenSpec.ofChange fnExactFilterStoreWrong)

/-- 'laws.FnExactFilterNearest': WHATEVER THE INPUT: true; the input reads as it did. -/
def fnExactFilterNearestSpec : ChangeSpec := { name := "fnExactFilterNearest", fn := fun _ => fun
  | [d1, d2, d3, d4, d5] => { results := [.lit (.bool true)], args := [d1, d2, d3, d4, d5] }
  | _ => none }
def fnExactFilterNearestRow : OpenClaim := { program := "ytanbdmdbfjonhaa", sum := "f9ef29dad69339ddd7c87a1a393e814df8166fc2224ac4532fe805be917db1c5", func := "loop.example/vectorstore/laws.FnExactFilterNearest", spec := "fnExactFilterNearest", unfollowed := true, recurses := true, apart := false }
def FnExactFilterNearestSaid : Prop := fnExactFilterNearestRow.holds Try.pinned (OpenSpec.ofChange fnExactFilterNearestSpec)

/-- ITS FALSE NEIGHBOUR: 'it returns false'. Refute it at one input. -/
def fnExactFilterNearestWrong : ChangeSpec := { name := "fnExactFilterNearest", fn := fun _ => fun
  | [d1, d2, d3, d4, d5] => { results := [.lit (.bool false)], args := [d1, d2, d3, d4, d5] }
  | _ => none }
def FnExactFilterNearestWrongFalsely : Prop := fnExactFilterNearestRow.holds Try.pinned (OpenSpec.ofChange fnExactFilterNearestWrong)

/-- 'laws.FnExactMutualLinks': WHATEVER THE INPUT: true; the input reads as it did. -/
def fnExactMutualLinksSpec : ChangeSpec := { name := "fnExactMutualLinks", fn := fun _ => fun
  | [d1, d2, d3] => { results := [.lit (.bool true)], args := [d1, d2, d3] }
  | _ => none }
def fnExactMutualLinksRow : OpenClaim := { program := "ytanbdmdbfjonhaa", sum := "f9ef29dad69339ddd7c87a1a393e814df8166fc2224ac4532fe805be917db1c5", func := "loop.example/vectorstore/laws.FnExactMutualLinks", spec := "fnExactMutualLinks", unfollowed := true, recurses := true, apart := false }
def FnExactMutualLinksSaid : Prop := fnExactMutualLinksRow.holds Try.pinned (OpenSpec.ofChange fnExactMutualLinksSpec)

/-- ITS FALSE NEIGHBOUR: 'it returns false'. Refute it at one input. -/
def fnExactMutualLinksWrong : ChangeSpec := { name := "fnExactMutualLinks", fn := fun _ => fun
  | [d1, d2, d3] => { results := [.lit (.bool false)], args := [d1, d2, d3] }
  | _ => none }
def FnExactMutualLinksWrongFalsely : Prop := fnExactMutualLinksRow.holds Try.pinned (OpenSpec.ofChange fnExactMutualLinksWrong)

/- THE SECOND FORM. 'bulk': how many values and letters a reading holds, each counted each time it is reached (what is shared counts as often as it is met; a slice's spare places count too). A statement '..UptoSaid' is the law's where the arguments, and the package variables that the reading takes, are together of bulk at most 1048576: NARROWER than '..Said'. Prove '..Said' where nothing that the law and all that it calls make is longer than what came in: it says more and counts as full. Else prove '..UptoSaid'. A law counts once. -/
mutual
def uptoBulk {H : Type} : DataW H → Nat
  | .lit (.string bytes) => bytes.length + 1
  | .lit _ => 1
  | .nil => 1
  | .ptr d => uptoBulk d + 1
  | .slice elems spare => uptoBulkAll elems + uptoBulkAll spare + 1
  | .agg parts => uptoBulkAll parts + 1
  | .iface _ d => uptoBulk d + 1
  | .map entries => uptoBulkEntries entries + 1
  | .held _ => 1
def uptoBulkAll {H : Type} : List (DataW H) → Nat
  | [] => 0
  | d :: r => uptoBulk d + uptoBulkAll r
def uptoBulkEntries {H : Type} : List (Lit × DataW H) → Nat
  | [] => 0
  | x :: r => uptoBulkEntry x + uptoBulkEntries r
def uptoBulkEntry {H : Type} : Lit × DataW H → Nat
  | (.string bytes, d) => bytes.length + uptoBulk d + 1
  | (_, d) => uptoBulk d + 1
 end
def uptoSmall : (H : Type) → List (DataW H) → Bool := fun _ ds => decide (uptoBulkAll ds ≤ 1048576)
def OpenSpec.upto (s : _root_.Go.ChangeSpec) : _root_.Go.OpenSpec := { _root_.Go.OpenSpec.ofChange s with cond := some uptoSmall }

/-- 'laws.FnMutualLinks', WHERE WHAT IT READS IS OF BULK AT MOST 1048576: true; the input reads as it did. -/
def fnMutualLinksUptoRow : OpenClaim := { program := "ytanbdmdbfjonhaa", sum := "f9ef29dad69339ddd7c87a1a393e814df8166fc2224ac4532fe805be917db1c5", func := "loop.example/vectorstore/laws.FnMutualLinks", spec := "fnMutualLinks", unfollowed := true, recurses := true, apart := false, narrowed := true }
def FnMutualLinksUptoSaid : Prop := fnMutualLinksUptoRow.holds Try.pinned (OpenSpec.upto fnMutualLinksSpec)

/-- 'laws.FnMutualLinksClosest', WHERE WHAT IT READS IS OF BULK AT MOST 1048576: true; the input reads as it did. -/
def fnMutualLinksClosestUptoRow : OpenClaim := { program := "ytanbdmdbfjonhaa", sum := "f9ef29dad69339ddd7c87a1a393e814df8166fc2224ac4532fe805be917db1c5", func := "loop.example/vectorstore/laws.FnMutualLinksClosest", spec := "fnMutualLinksClosest", unfollowed := true, recurses := true, apart := false, narrowed := true }
def FnMutualLinksClosestUptoSaid : Prop := fnMutualLinksClosestUptoRow.holds Try.pinned (OpenSpec.upto fnMutualLinksClosestSpec)

/-- 'laws.FnFilterStore', WHERE WHAT IT READS IS OF BULK AT MOST 1048576: true; the input reads as it did. -/
def fnFilterStoreUptoRow : OpenClaim := { program := "ytanbdmdbfjonhaa", sum := "f9ef29dad69339ddd7c87a1a393e814df8166fc2224ac4532fe805be917db1c5", func := "loop.example/vectorstore/laws.FnFilterStore", spec := "fnFilterStore", unfollowed := true, recurses := true, apart := false, narrowed := true }
def FnFilterStoreUptoSaid : Prop := fnFilterStoreUptoRow.holds Try.pinned (OpenSpec.upto fnFilterStoreSpec)

/-- 'laws.FnFilterStoreTwice', WHERE WHAT IT READS IS OF BULK AT MOST 1048576: true; the input reads as it did. -/
def fnFilterStoreTwiceUptoRow : OpenClaim := { program := "ytanbdmdbfjonhaa", sum := "f9ef29dad69339ddd7c87a1a393e814df8166fc2224ac4532fe805be917db1c5", func := "loop.example/vectorstore/laws.FnFilterStoreTwice", spec := "fnFilterStoreTwice", unfollowed := true, recurses := true, apart := false, narrowed := true }
def FnFilterStoreTwiceUptoSaid : Prop := fnFilterStoreTwiceUptoRow.holds Try.pinned (OpenSpec.upto fnFilterStoreTwiceSpec)

/-- 'laws.FnMutualLinksMore', WHERE WHAT IT READS IS OF BULK AT MOST 1048576: true; the input reads as it did. -/
def fnMutualLinksMoreUptoRow : OpenClaim := { program := "ytanbdmdbfjonhaa", sum := "f9ef29dad69339ddd7c87a1a393e814df8166fc2224ac4532fe805be917db1c5", func := "loop.example/vectorstore/laws.FnMutualLinksMore", spec := "fnMutualLinksMore", unfollowed := true, recurses := true, apart := false, narrowed := true }
def FnMutualLinksMoreUptoSaid : Prop := fnMutualLinksMoreUptoRow.holds Try.pinned (OpenSpec.upto fnMutualLinksMoreSpec)

/-- 'laws.FnFilterStoreBoth', WHERE WHAT IT READS IS OF BULK AT MOST 1048576: true; the input reads as it did. -/
def fnFilterStoreBothUptoRow : OpenClaim := { program := "ytanbdmdbfjonhaa", sum := "f9ef29dad69339ddd7c87a1a393e814df8166fc2224ac4532fe805be917db1c5", func := "loop.example/vectorstore/laws.FnFilterStoreBoth", spec := "fnFilterStoreBoth", unfollowed := true, recurses := true, apart := false, narrowed := true }
def FnFilterStoreBothUptoSaid : Prop := fnFilterStoreBothUptoRow.holds Try.pinned (OpenSpec.upto fnFilterStoreBothSpec)

/-- 'laws.FnExactFilterStore', WHERE WHAT IT READS IS OF BULK AT MOST 1048576: true; the input reads as it did. -/
def fnExactFilterStoreUptoRow : OpenClaim := { program := "ytanbdmdbfjonhaa", sum := "f9ef29dad69339ddd7c87a1a393e814df8166fc2224ac4532fe805be917db1c5", func := "loop.example/vectorstore/laws.FnExactFilterStore", spec := "fnExactFilterStore", unfollowed := true, recurses := true, apart := false, narrowed := true }
def FnExactFilterStoreUptoSaid : Prop := fnExactFilterStoreUptoRow.holds Try.pinned (OpenSpec.upto fnExactFilterStoreSpec)

/-- 'laws.FnExactFilterNearest', WHERE WHAT IT READS IS OF BULK AT MOST 1048576: true; the input reads as it did. -/
def fnExactFilterNearestUptoRow : OpenClaim := { program := "ytanbdmdbfjonhaa", sum := "f9ef29dad69339ddd7c87a1a393e814df8166fc2224ac4532fe805be917db1c5", func := "loop.example/vectorstore/laws.FnExactFilterNearest", spec := "fnExactFilterNearest", unfollowed := true, recurses := true, apart := false, narrowed := true }
def FnExactFilterNearestUptoSaid : Prop := fnExactFilterNearestUptoRow.holds Try.pinned (OpenSpec.upto fnExactFilterNearestSpec)

/-- 'laws.FnExactMutualLinks', WHERE WHAT IT READS IS OF BULK AT MOST 1048576: true; the input reads as it did. -/
def fnExactMutualLinksUptoRow : OpenClaim := { program := "ytanbdmdbfjonhaa", sum := "f9ef29dad69339ddd7c87a1a393e814df8166fc2224ac4532fe805be917db1c5", func := "loop.example/vectorstore/laws.FnExactMutualLinks", spec := "fnExactMutualLinks", unfollowed := true, recurses := true, apart := false, narrowed := true }
def FnExactMutualLinksUptoSaid : Prop := fnExactMutualLinksUptoRow.holds Try.pinned (OpenSpec.upto fnExactMutualLinksSpec)

end Rows
end Go.Proofs.Ytanbdmdbfjonhaa
